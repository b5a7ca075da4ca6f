import PyProof.Rows.All
import Wide.All
import OpenK.AllK
import Wide.FinOn
import HandS.ForMost
import HandS.Exc
import HandS.GenList
import HandS.AnyAll
import HandS.IsInst
import HandS.StrMore
import HandS.Flow
import HandS.TupAny
import HandS.EndTab
import HandS.Walk
import HandS.Lambda
import HandS.Codes
import KE.KIntText
import KE.KxText
import KE.KStateDown
import HandS.Head0
import HandS.Head1
import HandS.Head2
import HandS.HeadEnd
import HandS.HeadHook1
import HandS.HeadHook2
import HandS.HeadHook3
import HandS.HeadHook4
import HandS.HeadWalk
import PyProof.WalkInts
import PyProof.ZipIter
import HandS.Zip
import HandS.Nested
import HandS.GenOver
import KE.KLam
import PySem.Challenge.RW_tabgrow_k33_hands_refused
import KE.GoesEnum
import HandS.Iter
import HandS.TryMany
import HandS.Dict
import HandS.Small
import HandS.Conv
import HandS.More
import HandS.Deep
import HandS.Style
import HandS.WordsExc
import HandS.ExcInit
import HandS.ExcOwn
import HandS.FStr
import HandS.ExcIs
import HandS.ExcField
import KE.KExcIs
import KE.KExcSuper
import KE.KSuper
import KE.KSuperObj
import HandS.TryOnly
import HandS.Wide
set_option Elab.async false
set_option linter.all false
set_option maxRecDepth 1000000
set_option maxHeartbeats 20000000
namespace Gx
open PySem PySem.Spec PyProof.Rows L2 GenW
abbrev gE (X : Cx) (sc : Scope) (C : Addr) (code : Value) : Env :=
  genEnv sc (cloFrom X.env.cells sc.names []) C code builtinsNs X.env
/-- the context of the element -/
def gCx (X : Cx) (A : Around) (sc : Scope) (x : Str) (code : Value) (s4 : Shared) (H4 : Hp) (fp : List Addr) : Cx where
  prog := X.prog
  w := X.w
  K := X.K
  mg := X.mg
  base := X.base
  A := A.deeper (gE X sc s4.heap.objs.size code)
  N := [x]
  s_0 := s4
  H_0 := H4
  env := gE X sc s4.heap.objs.size code
  outer := X.stack
  stack := gE X sc s4.heap.objs.size code :: X.stack
  ex := fp
  fn := fun _ => false
  calm := true
  pn := []
  xe := fun _ _ => False
/-- the scope of a generator expression that captures nothing -/
structure GSc (sc : Scope) (x : Str) : Prop where
  kind : sc.kind = .function
  co : sc.isCoroutine = false
  cell : ∀ y ∈ sc.names, y.2 ≠ .cell
  free : ∀ y ∈ sc.names, y.2 ≠ .free
  dot : sc.names.lookup (".0" : Str) = some NameKind.local
  loc : sc.names.lookup x = some .local
section
variable {X : Cx} {pins : List (Addr × Obj)} {σ : L2.St} {H : Hp} {s : Shared} {A : Around} {sc : Scope} {x : Str} {code : Value} {fp : List Addr}
theorem no_cells (S : GSc sc x) (cells : List (Str × Addr)) {y : Str} {c : Addr} (h : (cloFrom cells sc.names []).lookup y = some c) : False := by
  rcases cloFrom_mem (PySem.mem_of_lookup h) with z | ⟨z, _⟩
  · cases z
  · exact S.free _ z rfl
theorem gx_inv (I : Inv X pins σ H s) (S : GSc sc x) (hd : A.handled = none) (hfr : A.frames = some X.stack) (hf : ∀ b ∈ fp, FpOk X pins H b)
    (hlt : ∀ b ∈ fp, b < s.heap.objs.size) {s5 : Shared} {m : Str → Option Value} (os : s5.os = s.os) (bare : AllBare s5.gens)
    (keep : ∀ b o, s.heap.get? b = some o → s5.heap.get? b = some o) (hns : s5.heap.Ns s.heap.objs.size m) :
    Inv (gCx X A sc x code s H fp) [] [none] H s5 := by
  have nc : ∀ {y : Str} {c : Addr}, (gCx X A sc x code s H fp).env.cells.lookup y = some c → False := fun {y c} h => no_cells S _ h
  refine ⟨⟨I.ok.mod, S.kind, I.ok.glob, rfl, Nat.le_refl _, fun y z c e _ => (nc e).elim, fun y hy => ?_, fun y c _ e => (nc e).elim, fun _ => hd,
      Around.frames_deeper hfr, .inr ⟨rfl, rfl⟩, fun b hb => ⟨Nat.ne_of_lt (hlt b hb), fun y c e => (nc e).elim⟩, I.bs, Nat.le_trans I.ok.bsz I.sz,
      fun b o e hb => ?_, fun b hb z => ?_, I.stack, I.stkFree⟩,
    os, bare, Un.kept keep, ⟨m, hns, fun i y v _ e2 _ => ?_⟩, fun y c e => (nc e).elim, I.hok.fresh (Nat.le_refl _), fun y c e => (nc e).elim,
    fun p hp => ?_, I.hok.kept keep, rfl⟩
  · rcases hy with z | z
    · exact absurd rfl (S.cell _ (PySem.mem_of_lookup (show sc.names.lookup y = some .cell from z)))
    · exact absurd rfl (S.free _ (PySem.mem_of_lookup (show sc.names.lookup y = some .free from z)))
  · rcases (hf b hb).2.2.2.1 with z | z
    · exact I.ok.noex b o e z
    · exact absurd (Nat.lt_of_lt_of_le (Heap.lt_size e) (Nat.le_trans I.ok.bsz z)) (Nat.lt_irrefl _)
  · rcases List.mem_cons.mp (I.stkSub b z) with q | q
    · exact (hf b hb).2.1 q
    · exact (hf b hb).2.2.1 q
  · match i, e2 with
    | 0, e2 => cases e2
    | i + 1, e2 => simp at e2
  · exact absurd (show p ∈ ([] : List (Addr × Obj)) from hp) (by simp)
/-- only the generators' states differ -/
theorem regens {s' : Shared} (I : Inv X pins σ H s) (os : s'.os = s.os) (hh : ∀ b o, s.heap.get? b = some o → s'.heap.get? b = some o) (hb : AllBare s'.gens) : Inv X pins σ H s' :=
  I.call' (ch := []) os (Un.kept hh) (I.hok.kept hh) hb fun b z => by simp at z
/-- the consumer's own list, if it has one -/
def Held (So : Option Addr) (Rel : Array Value → Prop) (ps : List (Addr × Obj)) : Prop :=
  match So with
  | none => ps = []
  | some S => ∃ acc c, ps = [(S, lstObj acc c)] ∧ Rel acc
structure Woke (So : Option Addr) (Rel : Array Value → Prop) (s s' : Shared) : Prop where
  os : s'.os = s.os
  bare : AllBare s'.gens
  keep : ∀ b o, So ≠ some b → s.heap.get? b = some o → s'.heap.get? b = some o
  own : ∀ S, So = some S → ∃ acc' c', s'.heap.get? S = some (lstObj acc' c') ∧ Rel acc'
theorem woken {Z : Cx} {q ps : List (Addr × Obj)} {So : Option Addr} {Rel Rel' : Array Value → Prop} {s' : Shared} (I : Inv Z (q ++ ps) σ H s) (hps : Held So Rel ps) (hq : ∀ p ∈ Z.pn ++ q, So ≠ some p.1)
    (hS : ∀ S, So = some S → Z.s_0.heap.objs.size ≤ S ∧ S ≠ Z.env.locals ∧ ∀ y c, Z.env.cells.lookup y = some c → c ≠ S) (k : Woke So Rel' s s') :
    ∃ ps', Held So Rel' ps' ∧ Inv Z (q ++ ps') σ H s' ∧ ∀ p ∈ ps', s'.heap.get? p.1 = some p.2 := by
  cases So with
  | none =>
    have e : ps = [] := hps
    subst e
    exact ⟨[], rfl, regens I k.os (fun b o e => k.keep b o (by simp) e) k.bare, fun p hp => by simp at hp⟩
  | some S =>
    obtain ⟨acc, c, e, _⟩ := hps
    subst e
    obtain ⟨h1, h2, h3, h4, _⟩ := I.pin (S, lstObj acc c) (List.mem_append_right _ (List.mem_append_right _ (List.mem_singleton.mpr rfl)))
    obtain ⟨acc', c', e', hR⟩ := k.own S rfl
    obtain ⟨g1, g2, g3⟩ := hS S rfl
    have I0 : Inv Z q σ H s := I.pins_of fun p hp => I.pin p (List.mem_append_right _ (List.mem_append_left _ hp))
    have nS : ∀ b u, H b = some u → b ≠ S := fun b u e z => by rw [z, h2] at e; cases e
    have kp : ∀ b o, b ≠ S → s.heap.get? b = some o → s'.heap.get? b = some o := fun b o hb e => k.keep b o (fun z => hb (Option.some.inj z).symm) e
    have ni : ∀ b : Addr, b ∉ [S] → b ≠ S := fun b hb e => hb (by rw [e]; exact List.mem_singleton.mpr rfl)
    have J : Inv Z q σ H s' := by
      refine I0.call' (ch := [S]) k.os ⟨fun b o e _ _ hx => kp b o (ni b hx) e, fun b o e _ _ hx => ⟨o.slots, kp b o (ni b hx) e⟩, fun _ _ _ n _ => n, fun b o e hx => ⟨o, kp b o (ni b hx) e⟩,
        fun _ _ e => e, fun _ _ _ e => e, fun _ _ e => ⟨#[], by rw [e]; simp⟩⟩ (fun b u e => ?_) k.bare fun b hb => ?_
      · refine (I0.hok b u e).stay (fun d v hd z => kp d v ?_ z) (fun _ z => z) fun _ _ z => z
        rcases hd with z | z
        · rw [z]; exact nS b u e
        · exact nS d _ z
      · have eb : b = S := List.mem_singleton.mp hb
        subst eb
        exact ⟨.inr g1, g2, g3, fun p hp z => hq p hp (by rw [z])⟩
    refine ⟨[(S, lstObj acc' c')], ⟨acc', c', rfl, hR⟩, J.pins_of fun p hp => ?_, fun p hp => by rw [List.mem_singleton.mp hp]; exact e'⟩
    rcases List.mem_append.mp hp with z | z
    · exact J.pin p (List.mem_append_right _ z)
    · rw [List.mem_singleton.mp z]
      exact ⟨e', h2, h3, h4, fun v z => by cases z⟩
abbrev WT := Nat → List V → Hp → Prop
/-- an item is handed out -/
def GYx (Z : Cx) (q : List (Addr × Obj)) (So : Option Addr) (Rel : List V → Array Value → Prop) (W : WT) (Ny : Nat → List V → V → Hp → Prop) : Protocol := fun n s₀ v s1 kap =>
  ∃ m ys y σ H ps, m < n + 1 ∧ RelV y v ∧ Held So (Rel ys) ps ∧ (∀ p ∈ ps, s₀.heap.get? p.1 = some p.2) ∧ Inv Z (q ++ ps) σ H s1 ∧ Ny m ys y H ∧ ∀ s', Woke So (Rel (ys ++ [y])) s1 s' → ∀ m', m' < m → W m' (ys ++ [y]) H → kap (.send .none) s'
def GFx (Z : Cx) (q : List (Addr × Obj)) (So : Option Addr) (Rel : List V → Array Value → Prop) (Ns : List V → Hp → Prop) (s₀ s1 : Shared) : Prop :=
  ∃ ys σ H ps, Held So (Rel ys) ps ∧ (∀ p ∈ ps, s₀.heap.get? p.1 = some p.2) ∧ Inv Z (q ++ ps) σ H s1 ∧ Ns ys H
abbrev GRx (Z : Cx) (q : List (Addr × Obj)) (So : Option Addr) (Rel : List V → Array Value → Prop) (Ns : List V → Hp → Prop) : GenEnd := fun n s₀ r s₁ =>
  ((r = .ok (.ret .none) ∨ r = .ok .next) ∧ (fun (_ : Nat) (t : Shared) s => GFx Z q So Rel Ns t s) n s₀ s₁) ∨ ∃ e, r = .error e ∧ (fun (_ : Value) (_ : Shared) => False) e s₁
theorem seg_turns {elt iter : Expr} {px : Pos} {pos : Pos} {it : Addr} {J : It} {tn : Nat → Heap → Prop} {te : TE} {W : WT} {Ny : Nat → List V → V → Hp → Prop} {Ns : List V → Hp → Prop} {s4 : Shared} {H4 : Hp}
    {q : List (Addr × Obj)} {So : Option Addr} {Rel : List V → Array Value → Prop}
    (S : GSc sc x) (T : Turn X.prog X.w X.K (.Name x px) J fp it tn)
    (stat : ∀ b ∈ fp, b ≠ s4.heap.objs.size ∧ b ∉ frs X.stack ∧ (∀ p ∈ q, p.1 ≠ b) ∧ So ≠ some b)
    (hq : ∀ p ∈ q, So ≠ some p.1) (hS : ∀ S', So = some S' → s4.heap.objs.size < S')
    (he : PE (gCx X A sc x code s4 H4 fp) elt te)
    (step : ∀ m ys H, W m ys H → (J.stop ys.length H ∧ Ns ys H) ∨ (J.go ys.length H ∧ ∀ v H', J.yld ys.length H v H' → te [some v] H' (Ny m ys))) :
    ∀ (n m : Nat) (ys : List V) (s₀ s : Shared) (σ : L2.St) (H : Hp) (ps : List (Addr × Obj)), m < n → Held So (Rel ys) ps → (∀ p ∈ ps, s₀.heap.get? p.1 = some p.2) → W m ys H → Inv (gCx X A sc x code s4 H4 fp) (q ++ ps) σ H s → tn ys.length s.heap → (∀ b ∈ fp, H b = none) →
      Seg (model X.prog X.w) A (GRx (gCx X A sc x code s4 H4 fp) q So Rel Ns) (GYx (gCx X A sc x code s4 H4 fp) q So Rel W Ny) n s₀
        (.compLoop (.GeneratorExp elt [⟨.Name x px, iter, [], 0⟩] sc pos) 0 (.ref it) .none (gE X sc s4.heap.objs.size code))
        ((model X.prog X.w).den (.compLoop (.GeneratorExp elt [⟨.Name x px, iter, [], 0⟩] sc pos) 0 (.ref it) .none (gE X sc s4.heap.objs.size code))) [] s := by
  have nc : ∀ {y : Str} {c : Addr}, (gCx X A sc x code s4 H4 fp).env.cells.lookup y = some c → False := fun {y c} h => no_cells S _ h
  intro n
  induction n with
  | zero => intro m _ _ _ _ _ _ hm; exact absurd hm (Nat.not_lt_zero _)
  | succ n ih =>
    intro m ys s₀ s σ H ps hm hps hs0 hW I htn hfn
    have fok : ∀ {H' : Hp}, (∀ b ∈ fp, H' b = none) → ∀ b ∈ fp, FpOk (gCx X A sc x code s4 H4 fp) (q ++ ps) H' b := fun {H'} hn b hb => by
      obtain ⟨a1, a2, a3, a4⟩ := stat b hb
      refine ⟨hn b hb, a1, a2, .inl hb, fun y c e => (nc e).elim, fun p hp => ?_⟩
      rcases List.mem_append.mp (show p ∈ q ++ ps from hp) with z | z
      · exact a3 p z
      · cases So with
        | none =>
          have e : ps = [] := hps
          rw [e] at z
          simp at z
        | some S' =>
          obtain ⟨acc, c, e, _⟩ := hps
          rw [e] at z
          rw [List.mem_singleton.mp z]
          exact fun w => a4 (by rw [← w])
    show Seg _ A _ _ _ s₀ _ ((compTurn (.GeneratorExp elt [⟨.Name x px, iter, [], 0⟩] sc pos) 0 (.ref it) .none (gE X sc s4.heap.objs.size code)).onRaise (leaving (gE X sc s4.heap.objs.size code))) [] s
    rw [compTurn_gen, Sem.onRaise_eq_wrap]
    refine seg_bind_wrap (wpAny_standAt ?_)
    rcases step m ys H hW with ⟨stop, qn⟩ | ⟨go, st⟩
    · refine seg_bind_wrap (thn (T.done (gCx X A sc x code s4 H4 fp) rfl rfl rfl rfl ys.length (q ++ ps) s σ H _ I (fok hfn) htn stop) fun r s5 ⟨hr, I5⟩ => ?_)
      subst hr
      exact seg_end (.ok .next) (.inl ⟨.inr rfl, ys, σ, H, ps, hps, hs0, I5, qn⟩)
    · refine seg_bind_wrap (thn (T.item (gCx X A sc x code s4 H4 fp) rfl rfl rfl rfl ys.length (q ++ ps) s σ H _ I (fok hfn) htn go) fun r s5 ⟨u, hr, h5⟩ => ?_)
      subst hr
      refine seg_bind_wrap (thn h5 fun _ s6 ⟨v, H6, I6, r6, y6, tn6, fn6⟩ => ?_)
      have I6' := I6.pinned (fok fn6) (T.obj _ _ tn6)
      have pg : PG (gCx X A sc x code s4 H4 fp) (.Name x px) (gName 0) := pg_name (i := 0) (List.nodup_cons.mpr ⟨by simp, List.nodup_nil⟩) rfl (.inl S.loc) (.inr S.loc)
      have eσ : σ.set 0 (some v) = [some v] := by
        have hl : σ.length = 1 := I.len
        match σ, hl with
        | [_], _ => rfl
      refine seg_bind_wrap (wpAny_mono (pg.run _ s6 σ H6 v u (fun σ' H' => σ' = [some v] ∧ H' = H6) I6' r6 ⟨eσ, rfl⟩) (fun _ s7 h7 => ?_) fun _ _ z => z.elim)
      obtain ⟨σ7, H7, I7, eσ7, eH7⟩ := h7
      subst eσ7 eH7
      simp only [List.forIn_nil]
      refine seg_bind_wrap (wpAny_pure ?_)
      simp only [if_true]
      have hy : ∀ v, yieldOut (gE X sc s4.heap.objs.size code) v = yieldValue v := fun v => by
        simp only [yieldOut, show (gE X sc s4.heap.objs.size code).scope.isCoroutine = false from S.co, Bool.false_eq_true, if_false]
      simp only [hy]
      rw [Sem.bind_eq_wrap', Sem.bind_eq_wrap', Sem.wrap_wrap, Sem.wrap_wrap]
      refine seg_wrap (wpAny_mono (he.run _ s7 [some v] H7 _ I7 (st v H7 y6)) (fun w s8 h8 => ?_) fun _ _ z => z.elim)
      obtain ⟨y, H8, I8, r8, ny⟩ := h8
      have fn8 : ∀ b ∈ fp, H8 b = none := fun b hb => by
        obtain ⟨o, e, d⟩ := T.obj _ _ tn6 b hb
        exact (I8.pin (b, o) (List.mem_append_right _ (List.mem_append_right _ (mem_pinsAt hb e)))).2.1
      have tn8 : tn (ys.length + 1) s8.heap := T.keep _ _ _ tn6 fun b hb o e => (I8.pin (b, o) (List.mem_append_right _ (List.mem_append_right _ (mem_pinsAt hb e)))).1
      refine seg_at (seg_yield rfl rfl rfl ⟨m, ys, y, [some v], H8, ps, hm, r8, hps, hs0, I8.unpinned, ny, fun s9 wk m' hm' w' => ?_⟩)
      obtain ⟨ps', hps', I9, e9⟩ := woken I8.unpinned hps (fun p hp => hq p hp) (fun S' e => ⟨Nat.le_of_lt (hS S' e), Nat.ne_of_gt (hS S' e), fun y c e => (nc e).elim⟩) wk
      refine seg_again rfl (ih m' (ys ++ [y]) s9 s9 [some v] H8 ps' (by omega) hps' e9 w' I9 ?_ fn8)
      rw [List.length_append, List.length_singleton]
      exact T.keep _ _ _ tn8 fun b hb o e => wk.keep b o (stat b hb).2.2.2 e
end
end Gx
namespace Gx
open PySem PySem.Spec PyProof.Rows L2 GenW
section
variable {X : Cx} {pins : List (Addr × Obj)} {σ : L2.St} {H : Hp} {s : Shared} {sc : Scope} {x : Str}
theorem seg_begin {A : Around} {elt iter : Expr} {px pos : Pos} {it : Addr} {J : It} {fp : List Addr} {tn : Nat → Heap → Prop} {cenv : Env} {R : GenEnd} {Y : Protocol} {n : Nat} {s₀ : Shared}
    (T : Turn X.prog X.w X.K (.Name x px) J fp it tn) (ht : tn 0 s.heap)
    (loop : Seg (model X.prog X.w) A R Y n s₀ (.compLoop (.GeneratorExp elt [⟨.Name x px, iter, [], 0⟩] sc pos) 0 (.ref it) .none cenv) ((model X.prog X.w).den (.compLoop (.GeneratorExp elt [⟨.Name x px, iter, [], 0⟩] sc pos) 0 (.ref it) .none cenv)) [] s) :
    Seg (model X.prog X.w) A R Y n s₀ (.compStart (.GeneratorExp elt [⟨.Name x px, iter, [], 0⟩] sc pos) 0 (.ref it) .none cenv) ((model X.prog X.w).den (.compStart (.GeneratorExp elt [⟨.Name x px, iter, [], 0⟩] sc pos) 0 (.ref it) .none cenv)) [] s := by
  show Seg _ A R Y n s₀ _ ((compStart (.GeneratorExp elt [⟨.Name x px, iter, [], 0⟩] sc pos) 0 (.ref it) .none cenv).onRaise (leaving cenv)) [] s
  unfold compStart
  rw [Sem.onRaise_eq_wrap]
  show Seg _ A R Y n s₀ _ ((ask >>= _).wrap _ _ _ _) [] s
  refine seg_bind_wrap (wpAny_askSetting ?_)
  split
  · exact seg_again rfl loop
  · first
      | exact seg_bind_wrap (wpAny_rule (seg_bind_wrap (wpAny_standAt (seg_bind_wrap (T.self _ 0 s _ _ ht (seg_again rfl loop))))))
      | (refine seg_bind_wrap (wpAny_rule ?_); show Seg _ A R Y n s₀ _ ((standAt iter.pos >>= _).wrap _ _ _ _) [] s; exact seg_bind_wrap (wpAny_standAt (seg_bind_wrap (T.self _ 0 s _ _ ht (seg_again rfl loop)))))
/-- the reading of a generator expression: W the state between two turns, by a measure, what was handed out, the heap -/
def tGen (P : Addr) (wi : TI) (te : TE) (NyOf : WT → Nat → List V → V → Hp → Prop) (Ns : List V → Hp → Prop) : L2.St → Hp → Prop := fun σ H =>
  wi σ H fun J H1 => GxR.TabG H1 P ∧ ∀ H2, GxR.Tabbed P H1 H2 → ∃ W : WT, (∃ m, W m [] H2) ∧ ∀ m ys H, W m ys H →
    (J.stop ys.length H ∧ Ns ys H) ∨ (J.go ys.length H ∧ ∀ v H', J.yld ys.length H v H' → te [some v] H' (NyOf W m ys))
theorem code_step {A : Around} {E : Value → Shared → Prop} {Q : Value → Shared → Prop} {c P : Addr} {gpos : Pos} (I : Inv X pins σ H s) (TB : GxR.TabB X.base X.mg c P) (hcode : X.env.code = .ref c) (hT : GxR.TabG H P)
    (h : ∀ (code : Value) (H3 : Hp) (s3 : Shared), GxR.Tabbed P H H3 → Inv X pins σ H3 s3 → (∀ b o, b ≠ P → s.heap.get? b = some o → s3.heap.get? b = some o) → Q code s3) :
    wpAny (model X.prog X.w) A (genexprCode X.env gpos (X.env.qual ++ "<genexpr>") sc) Q E s := by
  obtain ⟨ps, hP, ht⟩ := id hT
  have hPs : s.heap.get? P = some { cls := .none, data := .fields ps } := I.hok P _ hP
  have cd : PySem.W.CodeHd s.heap c P := TB.code.keeps I.bk
  cases hf : codeAmong gpos ps.toList with
  | none =>
    refine wpAny_genexprCodeX hcode (cd.code hPs ht) (cd.tab hPs) hf fun c' h' tk hx hge hlt hco' _ htab' _ => ?_
    obtain ⟨o1, vs, f1, tf, fl, tg, inF, tx, tt, op, _, _, _, _, _, _, _, _, _, htr, _⟩ := hco'
    have J := GxR.inv_tab (t' := tk) (g' := s.gens) (d' := s.drawn) I hP (fun b o hb e => hx b o hb e) htab'.2 I.bare
    exact h _ _ _ ⟨⟨_, upd_same, htr⟩, fun b hb => upd_ne hb⟩ J fun b o hb e => hx b o hb e
  | some cv =>
    refine wpAny_genexprCode_hit hcode (cd.code hPs ht) hf ?_
    exact h _ H s ⟨hT, fun _ _ => rfl⟩ I fun _ _ _ e => e
end
end Gx
namespace Gx
open PySem PySem.Spec PyProof.Rows L2 GenW
section
variable {X : Cx} {pins : List (Addr × Obj)} {σ : L2.St} {H : Hp} {s : Shared} {sc : Scope} {x : Str}
/-- a generator that has not begun, at a in s5 -/
def Begun1 (X : Cx) (pins : List (Addr × Obj)) (σ : L2.St) (k : Nat) (Rel : List V → Array Value → Prop) (NyOf : WT → Nat → List V → V → Hp → Prop) (Ns : List V → Hp → Prop) (a : Addr) (s5 : Shared) : Prop :=
  ∃ (g : Nat) (c : Code) (H4 : Hp), s5.heap.IsGen a g ∧ s5.gens[g]? = some (.fresh c) ∧ Inv X pins σ H4 s5 ∧ a < s5.heap.objs.size ∧
    ∀ (A : Around) (So : Option Addr) (s6 : Shared), Room (k + 1) A → A.frames = some X.stack → (∀ S, So = some S → s5.heap.objs.size ≤ S ∧ ∃ acc c, s6.heap.get? S = some (lstObj acc c) ∧ Rel [] acc) →
      (∀ b o, s5.heap.get? b = some o → s6.heap.get? b = some o) → s6.os = s5.os → AllBare s6.gens →
      ∃ (Z : Cx) (q : List (Addr × Obj)) (W : WT) (m0 : Nat),
        (∀ ps σz Hz s7, Inv Z (q ++ ps) σz Hz s7 → Inv X pins σ Hz s7 ∧ s7.heap.IsGen a g) ∧
        Seg (model X.prog X.w) A (GRx Z q So Rel Ns) (GYx Z q So Rel W (NyOf W)) (m0 + 1) s6 c ((model X.prog X.w).den c) [] s6
theorem gx_make {elt iter : Expr} {px gpos : Pos} {c P : Addr} {wi : TI} {te : TE} {k j : Nat} {Rel : List V → Array Value → Prop} {NyOf : WT → Nat → List V → V → Hp → Prop} {Ns : List V → Hp → Prop} {Q' : Value → Shared → Prop}
    (hr : Room j X.A) (TB : GxR.TabB X.base X.mg c P) (hcode : X.env.code = .ref c) (S : GSc sc x) (hi : PI X (.Name x px) iter wi)
    (he : ∀ (A : Around) (code : Value) (s4 : Shared) (H4 : Hp) (fp : List Addr), Room k (A.deeper (gE X sc s4.heap.objs.size code)) → PE (gCx X A sc x code s4 H4 fp) elt te)
    (hs : ∀ v, genFold iter X.env v = pure v) (I : Inv X pins σ H s) (h : tGen P wi te NyOf Ns σ H)
    (hQ : ∀ a s5, Begun1 X pins σ k Rel NyOf Ns a s5 → Q' (.ref a) s5) :
    wpAny (model X.prog X.w) X.A (eval (.GeneratorExp elt [⟨.Name x px, iter, [], 0⟩] sc gpos) X.env) Q' X.xe s := by
  refine wpAny_GeneratorExp_make S.co (closure_ok fun y hy z => absurd z (S.free y hy)) S.cell S.dot S.kind hr.depth ?_ hs
  refine thn (hi.run pins s σ H _ I h) fun xv s1 h1 => thn h1 fun itv s2 h2 => ?_
  obtain ⟨it, fp, tn, J, H2, e, I2, T, st2, f2, hT, hW⟩ := h2
  subst e
  refine ⟨I2.nolimit, code_step I2 TB hcode hT fun code H3 s3 hTb I3 kp3 => ?_⟩
  obtain ⟨bm, ob, e1, e2, e3, e4, e5, e6, e7, e8⟩ := TB.bm
  refine wpAny_builtinsFor (m := X.mg) (by rw [I3.ok.glob]; exact I3.mod.glob.keeps I3.bk) e1 e2 (I3.bk _ _ e5) e6 e7 e8 fun h' hn' hs' => ?_
  obtain ⟨W, ⟨m0, w0⟩, step⟩ := hW H3 hTb
  have hTP : H2 P ≠ none := by
    obtain ⟨ps, z, _⟩ := hT
    rw [z]; exact fun q => nomatch q
  have nP : ∀ b ∈ fp, b ≠ P := fun b hb z => hTP (by rw [← z]; exact (f2 b hb).1)
  have f3 : ∀ b ∈ fp, FpOk X pins H3 b := fun b hb => ⟨(hTb.2 b (nP b hb)).trans (f2 b hb).1, (f2 b hb).2⟩
  have tn3 : tn 0 s3.heap := T.keep _ _ _ st2 fun b hb o q => kp3 b o (nP b hb) q
  have lt3 : ∀ b ∈ fp, b < s3.heap.objs.size := fun b hb => by
    obtain ⟨o, q, _⟩ := T.obj _ _ tn3 b hb
    exact Heap.lt_size q
  have hsz : h'.objs.size = s3.heap.objs.size + 1 := by rw [hs'.1, Heap.size_push]
  have kp' : ∀ b o, s3.heap.get? b = some o → h'.get? b = some o := fun b o q => hs'.extBut b o (Nat.ne_of_lt (Heap.lt_size q)) (Heap.get?_push_of_some _ q)
  refine hQ _ _ ⟨s3.gens.size, _, H3, ⟨_, _, _, Heap.get?_push_size _ rfl, rfl, rfl, rfl⟩, Array.getElem?_push_size .., ?_, ?_, fun A So s6 hrA hfr hSo kp6 os6 b6 => ?_⟩
  · exact regens I3 rfl (fun b o q => Heap.get?_push_of_some _ (kp' b o q)) (AllBare.push I3.bare rfl)
  · show h'.objs.size < (h'.push _).objs.size
    rw [Heap.size_push]; exact Nat.lt_succ_self _
  · have kp36 : ∀ b o, s3.heap.get? b = some o → s6.heap.get? b = some o := fun b o q => kp6 b o (Heap.get?_push_of_some _ (kp' b o q))
    have hns6 : s6.heap.Ns s3.heap.objs.size (fun y => if y = ".0" then some (.ref it) else none) := by
      obtain ⟨o, es, ep, ho, r⟩ := hn'
      exact ⟨o, es, ep, kp6 _ _ (Heap.get?_push_of_some _ ho), r⟩
    have IZ := gx_inv (code := code) (A := A) I3 S hrA.hd hfr f3 lt3 (s5 := s6) os6 b6 kp36 hns6
    have big : ∀ b, s3.heap.objs.size < b → H3 b = none ∧ b ≠ s3.heap.objs.size ∧ b ∉ frs X.stack := fun b hb => by
      refine ⟨I3.hok.fresh (Nat.le_of_lt hb), Nat.ne_of_gt hb, fun z => ?_⟩
      rcases List.mem_cons.mp (I3.stkSub b z) with w | w
      · exact absurd (Nat.lt_trans (by rw [w]; exact I3.lt) hb) (Nat.lt_irrefl _)
      · exact I3.nofs (Nat.le_of_lt hb) w
    have ha : s3.heap.objs.size < h'.objs.size := by rw [hsz]; exact Nat.lt_succ_self _
    have hga := kp6 h'.objs.size _ (Heap.get?_push_size _ rfl)
    have hSb : ∀ S', So = some S' → h'.objs.size < S' := fun S' z => by
      have q := (hSo S' z).1
      have q' : (h'.push _).objs.size ≤ S' := q
      rw [Heap.size_push] at q'
      exact q'
    obtain ⟨ps, hps, IZ2⟩ : ∃ ps, Held So (Rel []) ps ∧ Inv (gCx X A sc x code s3 H3 fp) ([(h'.objs.size, _)] ++ ps) [none] H3 s6 := by
      cases So with
      | none =>
        refine ⟨[], rfl, IZ.pins_of fun p hp => ?_⟩
        rw [List.append_nil] at hp
        rw [List.mem_singleton.mp hp]
        obtain ⟨b1, b2, b3⟩ := big _ ha
        exact ⟨hga, b1, b2, b3, fun v z => by cases z⟩
      | some S' =>
        obtain ⟨_, acc, cc, q2, hR⟩ := hSo S' rfl
        refine ⟨[(S', lstObj acc cc)], ⟨acc, cc, rfl, hR⟩, IZ.pins_of fun p hp => ?_⟩
        rcases List.mem_append.mp hp with z | z
        · rw [List.mem_singleton.mp z]
          obtain ⟨b1, b2, b3⟩ := big _ ha
          exact ⟨hga, b1, b2, b3, fun v z => by cases z⟩
        · rw [List.mem_singleton.mp z]
          obtain ⟨b1, b2, b3⟩ := big _ (Nat.lt_trans ha (hSb S' rfl))
          exact ⟨q2, b1, b2, b3, fun v z => by cases z⟩
    have hSne : ∀ b, b ≤ h'.objs.size → So ≠ some b := fun b hb z => absurd (Nat.lt_of_lt_of_le (hSb b z) hb) (Nat.lt_irrefl _)
    refine ⟨gCx X A sc x code s3 H3 fp, [(h'.objs.size, { cls := .type "generator", data := .fields #[.int s3.gens.size 0, .str "<genexpr>" (s3.toks + 1), .str (X.env.qual ++ "<genexpr>") (s3.toks + 1 + 1)] })], W, m0, fun ps σz Hz s7 J7 => ⟨?_, ?_⟩, ?_⟩
    · refine I3.call' (ch := fp) J7.os J7.base J7.hok J7.bare fun b hb => ?_
      obtain ⟨_, a2, _, a4, a5, a6⟩ := f3 b hb
      exact ⟨a4, a2, a5, a6⟩
    · exact ⟨_, _, _, (J7.pin _ (List.mem_append_right _ (List.mem_append_left _ (List.mem_singleton.mpr rfl)))).1, rfl, rfl, rfl⟩
    · refine seg_begin T (T.keep _ _ _ tn3 fun b hb o q => kp36 b o q) ?_
      refine seg_turns S T (fun b hb => ⟨Nat.ne_of_lt (lt3 b hb), fun z => ?_, fun p hp z => ?_, hSne b (Nat.le_of_lt (Nat.lt_trans (lt3 b hb) ha))⟩) (fun p hp => ?_) (fun S' z => Nat.lt_trans ha (hSb S' z)) (he A code s3 H3 fp (hrA.deeper _)) step
        (m0 + 1) m0 [] s6 s6 [none] H3 ps (Nat.lt_succ_self _) hps (fun p hp => (IZ2.pin p (List.mem_append_right _ (List.mem_append_right _ hp))).1) w0 IZ2 (T.keep _ _ _ tn3 fun b hb o q => kp36 b o q) fun b hb => (f3 b hb).1
      · rcases List.mem_cons.mp (I3.stkSub b z) with w | w
        · exact (f3 b hb).2.1 w
        · exact (f3 b hb).2.2.1 w
      · rw [List.mem_singleton.mp hp] at z
        have q : h'.objs.size = b := z
        exact absurd (Nat.lt_trans (lt3 b hb) ha) (by rw [q]; exact Nat.lt_irrefl _)
      · rw [List.mem_singleton.mp hp]
        exact hSne _ (Nat.le_refl _)
end
end Gx
namespace Gx
open PySem PySem.Spec PyProof.Rows L2 GenW
section
variable {X : Cx} {pins : List (Addr × Obj)} {σ : L2.St} {H : Hp} {s : Shared} {sc : Scope} {x : Str}
def NyAll (Qb : Bool → Hp → Prop) (W : WT) : Nat → List V → V → Hp → Prop := fun m ys y H => ∃ b : Bool, y = .bl b ∧ if b = true then ∃ m', m' < m ∧ W m' (ys ++ [y]) H else Qb false H
abbrev noRel : List V → Array Value → Prop := fun _ _ => True
theorem all_turns {Z : Cx} {q : List (Addr × Obj)} {W : WT} {Qb : Bool → Hp → Prop} {A : Around} {a : Addr} {g : Nat} {Rr : Result → Shared → Prop} (hh : A.handled = none) (hd : A.depth < recursionLimit)
    (fin : ∀ ps σz Hz s7, Inv Z (q ++ ps) σz Hz s7 → Inv X pins σ Hz s7 ∧ s7.heap.IsGen a g)
    (hdone : ∀ b H' s', Inv X pins σ H' s' → Qb b H' → Rr (.ok (.ret (.bool b))) s') :
    ∀ (n : Nat) (s : Shared), s.heap.IsGen a g → s.heap.NoLimit →
      (∃ gs, s.gens[g]? = some gs ∧ gs.Goes (model X.prog X.w) A.in1.in1 (GRx Z q none noRel fun _ => Qb true) (GYx Z q none noRel W (NyAll Qb W)) n (.send .none) (s.setGen g .running)) →
      codeAny (model X.prog X.w) A (.builtin "all.loop" ⟨[.ref a], []⟩) Rr s := by
  intro n
  induction n using Nat.strongRecOn with
  | ind n ih =>
    intro s hg hl ⟨gs, hgs, hgo⟩
    have hgl : g < s.gens.size := (Array.getElem?_eq_some_iff.mp hgs).1
    refine codeAny_builtin F.entry_all_loop ?_; rw [Around.under_plainId F.plain_all_loop _]
    show wpAny _ A.in1 (pyNext (.ref a) >>= _) _ _ s
    refine wpAny_bind (wpAny_gsz (n := g + 1) hgl (next_genG (A := A.in1) hh hl hd hg hgs hgo (fun v s₁ gs' hbare hv => ?_) (fun s₁ hp h' hk => ?_) fun e s₁ he => he.elim))
    · intro hsz
      obtain ⟨m, ys, y, σz, Hz, ps, hm, rv, hps, _, J, ⟨b, eb, hb⟩, hkap⟩ := hv
      subst eb
      have eps : ps = [] := hps
      subst eps
      have ev : v = Value.bool b := rv
      subst ev
      obtain ⟨I1, g1⟩ := fin _ _ _ _ J
      have hsz1 : g < s₁.gens.size := by
        have q1 : (s₁.setGen g gs').gens.size = s₁.gens.size := setGen_size _ _ _
        have q2 : g + 1 ≤ (s₁.setGen g gs').gens.size := hsz
        omega
      have bare2 : AllBare (s₁.setGen g gs').gens := allBare_setGen I1.bare hbare
      refine wpAny_bind (wpAny_holding (wpAny_truthy_bool ?_))
      refine wpAny_bind (wpAny_letGo ?_)
      cases b with
      | true =>
        obtain ⟨m', hm', hw⟩ : ∃ m', m' < m ∧ W m' (ys ++ [V.bl true]) Hz := by simpa using hb
        simp only [if_true]
        cases n with
        | zero => omega
        | succ n =>
          refine wpAny_pure ⟨plainId_quiet F.plain_all_loop _, ih n (Nat.lt_succ_self n) (s₁.setGen g gs') g1 I1.nolimit ⟨gs', setGen_at hsz1, ?_⟩⟩
          exact hkap ((s₁.setGen g gs').setGen g .running) ⟨rfl, allBare_setGen bare2 rfl, fun b o _ e => e, fun S z => by cases z⟩ m' hm' hw
      | false =>
        have hq : Qb false Hz := by simpa using hb
        simp only [Bool.false_eq_true, if_false]
        exact wpAny_bind (wpAny_rule (wpAny_pure (hdone false Hz _ (regens I1 rfl (fun _ _ e => e) bare2) hq)))
    · intro hsz
      obtain ⟨ys, σz, Hz, ps, hps, _, J, hq⟩ := hp
      have eps : ps = [] := hps
      subst eps
      obtain ⟨I1, g1⟩ := fin _ _ _ _ J
      exact wpAny_bind (wpAny_rule (wpAny_pure (hdone true Hz _ (regens I1 rfl (fun b o e => hk b o e) (allBare_setGen I1.bare rfl)) hq)))
/-- all(elt for x in iter) -/
def tAllG (P : Addr) (wi : TI) (te : TE) : TE := fun σ H Q => tGen P wi te (NyAll fun b H => Q (.bl b) H) (fun _ H => Q (.bl true) H) σ H
theorem pe_allG {elt iter : Expr} {px p pos gpos : Pos} {c P : Addr} {wi : TI} {te : TE} {k : Nat}
    (hr : Room (k + 3) X.A) (hg : Gl X "all") (hm : X.mg "all" = none) (TB : GxR.TabB X.base X.mg c P) (hcode : X.env.code = .ref c) (S : GSc sc x) (hi : PI X (.Name x px) iter wi)
    (he : ∀ (A : Around) (code : Value) (s4 : Shared) (H4 : Hp) (fp : List Addr), Room k (A.deeper (gE X sc s4.heap.objs.size code)) → PE (gCx X A sc x code s4 H4 fp) elt te)
    (hs : ∀ v, genFold iter X.env v = pure v)
    (hst : starEach [.GeneratorExp elt [⟨.Name x px, iter, [], 0⟩] sc gpos] X.env = (false, eval (.GeneratorExp elt [⟨.Name x px, iter, [], 0⟩] sc gpos) X.env) :: starEach [] X.env := by rfl) :
    PE X (.Call (.Name "all" p) [.GeneratorExp elt [⟨.Name x px, iter, [], 0⟩] sc gpos] [] pos) (tAllG P wi te) := by
  refine ⟨fun pins s σ H Q I h => ?_⟩
  have hb : bootBuiltins "all" = some (.builtin "all") := by decide +kernel
  refine wpAny_Call_Name_kw (ld_blt I hg hm hb (PyProof.Rows.callWith_builtin1 ?_ hst (by rfl)))
  rw [hst]
  show wpAny _ _ (spliced ((false, eval (.GeneratorExp elt [⟨.Name x px, iter, [], 0⟩] sc gpos) X.env) :: backTo pos (starEach [] X.env))) _ _ s
  refine Calls.spliced_cons (gx_make (k := k) (Rel := noRel) hr TB hcode S hi he hs I h fun a s5 hB => Calls.spliced_nil ?_)
  obtain ⟨g, cd, H4, hgen, hfresh, I5, ha, wake⟩ := hB
  refine call_function_tree F.kind_all F.plain_all F.entry_all (F.args_all1 _) ?_
  unfold Builtin.«all»
  refine wpAny_bind (m := oneArg "all" _) (wpAny_pure (wpAny_bind (wpAny_pyIter_gen hgen ?_)))
  obtain ⟨Z, q, W, m0, fin, seg⟩ := wake X.A.in1.in1 none (s5.setGen g .running) ((hr.mono (by omega : k + 1 + 1 + 1 ≤ k + 3)).in1.in1) I.ok.frames (fun S z => by cases z) (fun _ _ e => e) rfl (allBare_setGen I5.bare rfl)
  refine wpAny_pure ⟨plainId_quiet F.plain_all_loop _, all_turns (Qb := fun b H => Q (.bl b) H) hr.hd hr.depth fin (fun b H' s' I' hq => ?_) (m0 + 1) s5 hgen I5.nolimit ⟨_, hfresh, rfl, seg⟩⟩
  exact ⟨.bl b, H', I', rfl, hq⟩
end
end Gx
namespace Gx
open PySem PySem.Spec PyProof.Rows L2 GenW
section
variable {X : Cx} {pins : List (Addr × Obj)} {σ : L2.St} {H : Hp} {s : Shared} {sc : Scope} {x : Str}
theorem cmp_gt {prog : Program} {w : World} {A : Around} {E : Value → Shared → Prop} {i j : Int} {t u : Tok} {Q : Value → Shared → Prop} (h : Q (.bool (decide (i > j))) s) :
    wpAny (model prog w) A (richCompare .Gt (.int i t) (.int j u)) Q E s :=
  CmpOf.ints_gt (P := fun n v => ∃ t, v = .int (if n = 0 then i else j) t) (fun n => if n = 0 then i else j) (fun _ _ h => h) 0 1 _ _ s Q E ⟨t, rfl⟩ ⟨u, rfl⟩ h
def MaxRel (ys : List V) (acc : Array Value) : Prop :=
  ∃ ns : List Int, ys = ns.map V.int ∧ ((ns = [] ∧ acc = #[]) ∨ ∃ b t, acc = #[.int b t, .int b t] ∧ b ∈ ns ∧ ∀ z ∈ ns, z ≤ b)
def NyMax (W : WT) : Nat → List V → V → Hp → Prop := fun m ys y H => ∃ i : Int, y = .int i ∧ ∃ m', m' < m ∧ W m' (ys ++ [y]) H
def NsMax (Qm : Int → Hp → Prop) : List V → Hp → Prop := fun ys H => ∃ ns : List Int, ys = ns.map V.int ∧ ns ≠ [] ∧ ∀ b, b ∈ ns → (∀ z ∈ ns, z ≤ b) → Qm b H
theorem map_int_inj {a b : List Int} (h : a.map V.int = b.map V.int) : a = b := by
  induction a generalizing b with
  | nil => cases b with
    | nil => rfl
    | cons _ _ => cases h
  | cons x a ih => cases b with
    | nil => cases h
    | cons y b =>
      rw [List.map_cons, List.map_cons] at h
      injection h with h1 h2
      injection h1 with h1
      rw [h1, ih h2]
theorem MaxRel.first {i : Int} {t : Tok} {ys : List V} (h : MaxRel ys #[]) : MaxRel (ys ++ [.int i]) #[.int i t, .int i t] := by
  obtain ⟨ns, rfl, h | ⟨b, u, e, _⟩⟩ := h
  · rw [h.1]
    exact ⟨[i], rfl, .inr ⟨i, t, rfl, by simp, by simp⟩⟩
  · have := congrArg Array.size e
    simp at this
theorem MaxRel.more {i b : Int} {t u : Tok} {ys : List V} (h : MaxRel ys #[.int b u, .int b u]) : MaxRel (ys ++ [.int i]) (if decide (i > b) = true then #[.int i t, .int i t] else #[.int b u, .int b u]) := by
  obtain ⟨ns, rfl, h | ⟨b', u', e, hb, hm⟩⟩ := h
  · have := congrArg Array.size h.2
    simp at this
  · have e' : b = b' := by
      have := congrArg (fun a : Array Value => a[0]?) e
      simp at this
      exact this.1
    subst e'
    refine ⟨ns ++ [i], by simp, .inr ?_⟩
    by_cases hi : i > b
    · rw [if_pos (decide_eq_true hi)]
      refine ⟨i, t, rfl, by simp, fun z hz => ?_⟩
      rcases List.mem_append.mp hz with q | q
      · exact Int.le_of_lt (Int.lt_of_le_of_lt (hm z q) hi)
      · rw [List.mem_singleton.mp q]; exact Int.le_refl _
    · rw [if_neg (by rw [decide_eq_false hi]; exact Bool.false_ne_true)]
      refine ⟨b, u, rfl, List.mem_append_left _ hb, fun z hz => ?_⟩
      rcases List.mem_append.mp hz with q | q
      · exact hm z q
      · rw [List.mem_singleton.mp q]; omega
theorem MaxRel.last {b : Int} {u : Tok} {ys : List V} {Qm : Int → Hp → Prop} (h : MaxRel ys #[.int b u, .int b u]) (q : NsMax Qm ys H) : Qm b H := by
  obtain ⟨ns, rfl, h | ⟨b', u', e, hb, hm⟩⟩ := h
  · have := congrArg Array.size h.2
    simp at this
  · have e' : b = b' := by
      have := congrArg (fun a : Array Value => a[0]?) e
      simp at this
      exact this.1
    subst e'
    obtain ⟨ms, e1, _, hq⟩ := q
    rw [map_int_inj e1] at hb hm
    exact hq b hb hm
theorem MaxRel.none {ys : List V} {Qm : Int → Hp → Prop} (h : MaxRel ys #[]) (q : NsMax Qm ys H) : False := by
  obtain ⟨ns, rfl, h | ⟨b', u', e, hb, hm⟩⟩ := h
  · obtain ⟨ms, e1, h2, _⟩ := q
    rw [h.1] at e1
    exact h2 (map_int_inj e1).symm
  · have := congrArg Array.size e
    simp at this
/-- what stands at the consumer's list is what it read -/
theorem held_eq {S : Addr} {Rel : Array Value → Prop} {ps : List (Addr × Obj)} {s₀ : Shared} {acc : Array Value} {c : Nat} (hps : Held (some S) Rel ps) (h0 : ∀ p ∈ ps, s₀.heap.get? p.1 = some p.2) (hS : s₀.heap.get? S = some (lstObj acc c)) :
    ps = [(S, lstObj acc c)] ∧ Rel acc := by
  obtain ⟨acc', c', e, hR⟩ := hps
  subst e
  have q := h0 _ (List.mem_singleton.mpr rfl)
  rw [hS] at q
  injection q with q
  have q1 : (Data.seq acc c : Data) = Data.seq acc' c' := congrArg Obj.data q
  injection q1 with q1 q2
  subst q1 q2
  exact ⟨rfl, hR⟩
theorem max_turns {Z : Cx} {q : List (Addr × Obj)} {W : WT} {Qm : Int → Hp → Prop} {A : Around} {a S : Addr} {g : Nat} {Rr : Result → Shared → Prop} (hh : A.handled = none) (hd : A.depth < recursionLimit) (hSa : S ≠ a) (hSc : S ≠ cStatics)
    (fin : ∀ ps σz Hz s7, Inv Z (q ++ ps) σz Hz s7 → Inv X pins σ Hz s7 ∧ s7.heap.IsGen a g)
    (hin : ∀ (ps : List (Addr × Obj)) σz Hz s7 acc c s8, Inv Z (q ++ ps) σz Hz s7 → ps = [(S, lstObj acc c)] → (∀ b o, b ≠ S → s7.heap.get? b = some o → s8.heap.get? b = some o) → s8.os = s7.os → AllBare s8.gens → Inv X pins σ Hz s8)
    (hdone : ∀ b t H' s', Inv X pins σ H' s' → Qm b H' → Rr (.ok (.ret (.int b t))) s') :
    ∀ (n : Nat) (s : Shared) (acc : Array Value) (c : Nat), (acc = #[] ∨ ∃ b t, acc = #[.int b t, .int b t]) → s.heap.get? S = some (lstObj acc c) → s.heap.IsGen a g → s.heap.NoLimit →
      (∃ gs, s.gens[g]? = some gs ∧ gs.Goes (model X.prog X.w) A.in1.in1 (GRx Z q (some S) MaxRel (NsMax Qm)) (GYx Z q (some S) MaxRel W (NyMax W)) n (.send .none) (s.setGen g .running)) →
      codeAny (model X.prog X.w) A (.builtin "max.loop" ⟨[.ref a, .none, .ref S], []⟩) Rr s := by
  have hname : (toString "max" ++ toString ".loop" : String) = "max.loop" := by decide
  intro n
  induction n using Nat.strongRecOn with
  | ind n ih =>
    intro s acc c hacc hS hg hl ⟨gs, hgs, hgo⟩
    have hgl : g < s.gens.size := (Array.getElem?_eq_some_iff.mp hgs).1
    refine codeAny_builtin F.entry_max_loop ?_; rw [Around.under_plainId F.plain_max_loop _]
    show wpAny _ A.in1 (seqItems? (.ref S) >>= _) _ _ s
    refine wpAny_bind (wpAny_seqItems hS rfl ?_)
    have turn : ∀ (v : Value) (s₁ : Shared) (gs' : GenState) (m : Nat) (ys : List V) (i : Int) (t : Tok) (Hz : Hp) (σz : L2.St) (ps : List (Addr × Obj)) (acc2 : Array Value), g < s₁.gens.size → gs'.bare = true → v = .int i t → m < n + 1 → ps = [(S, lstObj acc c)] → Inv Z (q ++ ps) σz Hz s₁ →
        (∃ m', m' < m ∧ W m' (ys ++ [.int i]) Hz) → MaxRel (ys ++ [.int i]) acc2 → (∃ b t, acc2 = #[.int b t, .int b t]) →
        (∀ s', Woke (some S) (MaxRel (ys ++ [.int i])) s₁ s' → ∀ m', m' < m → W m' (ys ++ [.int i]) Hz → (match (generalizing := false) n with | 0 => False | k + 1 => gs'.Goes (model X.prog X.w) A.in1.in1 (GRx Z q (some S) MaxRel (NsMax Qm)) (GYx Z q (some S) MaxRel W (NyMax W)) k (.send .none) s')) →
        ∀ (s2 : Shared) (c2 : Nat), s2.heap.get? S = some (lstObj acc2 c2) → (∀ b o, b ≠ S → s₁.heap.get? b = some o → s2.heap.get? b = some o) → s2.os = s₁.os → s2.gens = (s₁.setGen g gs').gens →
          codeAny (model X.prog X.w) A (.builtin "max.loop" ⟨[.ref a, .none, .ref S], []⟩) Rr s2 := by
      intro v s₁ gs' m ys i t Hz σz ps acc2 hsz hbare _ hm hps J ⟨m', hm', hw⟩ hR hacc2 hkap s2 c2 hS2 k2 os2 gens2
      cases n with
      | zero => omega
      | succ n =>
        obtain ⟨I1, g1⟩ := fin _ _ _ _ J
        have bare2 : AllBare (s₁.setGen g gs').gens := allBare_setGen I1.bare hbare
        have I2 := hin _ _ _ _ _ _ s2 J hps k2 os2 (by rw [gens2]; exact bare2)
        have size2 : g < s2.gens.size := by
          rw [gens2, setGen_size]; exact hsz
        refine ih n (Nat.lt_succ_self n) s2 acc2 c2 (.inr hacc2) hS2 ?_ I2.nolimit ⟨gs', ?_, ?_⟩
        · obtain ⟨o, nm, qn, ho, r⟩ := g1
          exact ⟨o, nm, qn, k2 a o (Ne.symm hSa) ho, r⟩
        · rw [gens2]; exact setGen_at hsz
        · refine hkap (s2.setGen g .running) ⟨os2, allBare_setGen I2.bare rfl, fun b o hb e => k2 b o (fun z => hb (by rw [z])) e, fun S' z => ?_⟩ m' hm' hw
          cases z
          exact ⟨acc2, c2, hS2, hR⟩
    have nx : ∀ (Q : Option Value → Shared → Prop) (E : Value → Shared → Prop),
        (∀ (v : Value) (s₁ : Shared) (gs' : GenState), gs'.bare = true → g < s₁.gens.size → GYx Z q (some S) MaxRel W (NyMax W) (n - 1) (s.setGen g .running) v s₁ (fun r' s'' => match (generalizing := false) n with
            | 0 => False
            | m + 1 => gs'.Goes (model X.prog X.w) A.in1.in1 (GRx Z q (some S) MaxRel (NsMax Qm)) (GYx Z q (some S) MaxRel W (NyMax W)) m r' s'') → Q (some v) (s₁.setGen g gs')) →
        (∀ s₁, GFx Z q (some S) MaxRel (NsMax Qm) (s.setGen g .running) s₁ → ∀ h', (∀ b o, s₁.heap.get? b = some o → h'.get? b = some o) → Q none { s₁.setGen g .finished with heap := h' }) →
        wpAny (model X.prog X.w) A.in1 (pyNext (.ref a)) Q E s := fun Q E hY hP =>
      wpAny_gsz (n := g + 1) hgl (next_genG (A := A.in1) hh hl hd hg hgs hgo (fun v s₁ gs' hbare hv hsz => hY v s₁ gs' hbare (by
        have q1 : (s₁.setGen g gs').gens.size = s₁.gens.size := setGen_size _ _ _
        have q2 : g + 1 ≤ (s₁.setGen g gs').gens.size := hsz
        omega) hv) (fun s₁ hp h' hk _ => hP s₁ hp h' hk) fun e s₁ he => he.elim)
    rcases hacc with rfl | ⟨b, tb, rfl⟩
    · show wpAny _ A.in1 (tryCatch (pyNext (.ref a)) _ >>= _) _ _ s
      refine wpAny_bind (wpAny_tryCatch (nx _ _ (fun v s₁ gs' hbare hsz hv => ?_) fun s₁ hp h' hk => ?_))
      · obtain ⟨m, ys, y, σz, Hz, ps, hm, rv, hps, h0, J, ⟨i, ey, hw⟩, hkap⟩ := hv
        subst ey
        obtain ⟨t, rfl⟩ := rv
        obtain ⟨eps, hR⟩ := held_eq hps h0 hS
        have hS1 : s₁.heap.get? S = some (lstObj #[] c) := (J.pin (S, lstObj #[] c) (List.mem_append_right _ (List.mem_append_right _ (by rw [eps]; exact List.mem_singleton.mpr rfl)))).1
        show wpAny _ A.in1 (updateSeq S (fun _ => #[.int i t, .int i t]) >>= _) _ _ _
        refine wpAny_bind (wpAny_updateSeq hS1 rfl ?_)
        rw [hname]
        refine wpAny_pure ⟨plainId_quiet F.plain_max_loop _, turn _ s₁ gs' m ys i t Hz σz ps #[.int i t, .int i t] hsz hbare rfl (by omega) eps J hw hR.first ⟨i, t, rfl⟩ hkap _ _ (Heap.get?_update_self _ hS1 rfl) (fun b o hb e => (Heap.get?_update_other _ _ (Ne.symm hb)).trans e) rfl rfl⟩
      · obtain ⟨ys, σz, Hz, ps, hps, h0, J, hq⟩ := hp
        obtain ⟨eps, hR⟩ := held_eq hps h0 hS
        exact (hR.none hq).elim
    · show wpAny _ A.in1 (tryCatch (pyNext (.ref a)) _ >>= _) _ _ s
      refine wpAny_bind (wpAny_tryCatch (nx _ _ (fun v s₁ gs' hbare hsz hv => ?_) fun s₁ hp h' hk => ?_))
      · obtain ⟨m, ys, y, σz, Hz, ps, hm, rv, hps, h0, J, ⟨i, ey, hw⟩, hkap⟩ := hv
        subst ey
        obtain ⟨t, rfl⟩ := rv
        obtain ⟨eps, hR⟩ := held_eq hps h0 hS
        have hS1 : s₁.heap.get? S = some (lstObj #[.int b tb, .int b tb] c) := (J.pin (S, lstObj _ c) (List.mem_append_right _ (List.mem_append_right _ (by rw [eps]; exact List.mem_singleton.mpr rfl)))).1
        have hR2 := hR.more (i := i) (t := t)
        show wpAny _ A.in1 (tryCatch (holding [.int i t, .int i t] (richCompare .Gt (.int i t) (.int b tb) >>= _)) _ >>= _) _ _ _
        refine wpAny_bind (wpAny_tryCatch (wpAny_holding (wpAny_bind (cmp_gt ?_))))
        refine wpAny_bind (wpAny_holding (wpAny_truthy_bool ?_))
        refine wpAny_bind (wpAny_letGo (wpAny_pure ?_))
        cases hb : decide (i > b) with
        | true =>
          rw [if_pos hb] at hR2
          simp only [if_true]
          refine wpAny_bind (wpAny_updateSeq hS1 rfl (wpAny_bind (wpAny_letGo ?_)))
          rw [hname]
          refine wpAny_pure ⟨plainId_quiet F.plain_max_loop _, turn _ s₁ gs' m ys i t Hz σz ps #[.int i t, .int i t] hsz hbare rfl (by omega) eps J hw hR2 ⟨i, t, rfl⟩ hkap _ _ (Heap.get?_update_self _ hS1 rfl) (fun b o hb e => (Heap.get?_update_other _ _ (Ne.symm hb)).trans e) rfl rfl⟩
        | false =>
          rw [if_neg (by rw [hb]; exact Bool.false_ne_true)] at hR2
          simp only [Bool.false_eq_true, if_false]
          refine wpAny_bind (wpAny_letGo ?_)
          rw [hname]
          exact wpAny_pure ⟨plainId_quiet F.plain_max_loop _, turn _ s₁ gs' m ys i t Hz σz ps #[.int b tb, .int b tb] hsz hbare rfl (by omega) eps J hw hR2 ⟨b, tb, rfl⟩ hkap _ c hS1 (fun _ _ _ e => e) rfl rfl⟩
      · obtain ⟨ys, σz, Hz, ps, hps, h0, J, hq⟩ := hp
        obtain ⟨eps, hR⟩ := held_eq hps h0 hS
        have hS1 : s₁.heap.get? S = some (lstObj #[.int b tb, .int b tb] c) := (J.pin (S, lstObj _ c) (List.mem_append_right _ (List.mem_append_right _ (by rw [eps]; exact List.mem_singleton.mpr rfl)))).1
        obtain ⟨I1, g1⟩ := fin _ _ _ _ J
        show wpAny _ A.in1 (updateSeq S (fun _ => #[]) >>= _) _ _ _
        refine wpAny_bind (wpAny_updateSeq (hk _ _ hS1) rfl (wpAny_bind (wpAny_letGo (wpAny_pure ?_))))
        refine hdone b tb Hz _ (hin _ _ _ _ _ _ _ J eps (fun d o hd' e => (Heap.get?_update_other _ _ (Ne.symm hd')).trans (hk d o e)) rfl (allBare_setGen I1.bare rfl)) (hR.last hq)
/-- max(elt for x in iter), whole numbers -/
def tMaxG (P : Addr) (wi : TI) (te : TE) : TE := fun σ H Q => tGen P wi te NyMax (NsMax fun b H => Q (.int b) H) σ H
theorem pe_maxG {elt iter : Expr} {px p pos gpos : Pos} {c P : Addr} {wi : TI} {te : TE} {k : Nat}
    (hr : Room (k + 3) X.A) (hg : Gl X "max") (hm : X.mg "max" = none) (TB : GxR.TabB X.base X.mg c P) (hcode : X.env.code = .ref c) (Sc : GSc sc x) (hi : PI X (.Name x px) iter wi)
    (he : ∀ (A : Around) (code : Value) (s4 : Shared) (H4 : Hp) (fp : List Addr), Room k (A.deeper (gE X sc s4.heap.objs.size code)) → PE (gCx X A sc x code s4 H4 fp) elt te)
    (hs : ∀ v, genFold iter X.env v = pure v)
    (hst : starEach [.GeneratorExp elt [⟨.Name x px, iter, [], 0⟩] sc gpos] X.env = (false, eval (.GeneratorExp elt [⟨.Name x px, iter, [], 0⟩] sc gpos) X.env) :: starEach [] X.env := by rfl) :
    PE X (.Call (.Name "max" p) [.GeneratorExp elt [⟨.Name x px, iter, [], 0⟩] sc gpos] [] pos) (tMaxG P wi te) := by
  have hname : (toString "max" ++ toString ".loop" : String) = "max.loop" := by decide
  refine ⟨fun pins s σ H Q I h => ?_⟩
  have hb : bootBuiltins "max" = some (.builtin "max") := by decide +kernel
  refine wpAny_Call_Name_kw (ld_blt I hg hm hb (PyProof.Rows.callWith_builtin1 ?_ hst (by rfl)))
  rw [hst]
  show wpAny _ _ (spliced ((false, eval (.GeneratorExp elt [⟨.Name x px, iter, [], 0⟩] sc gpos) X.env) :: backTo pos (starEach [] X.env))) _ _ s
  refine Calls.spliced_cons (gx_make (k := k) (Rel := MaxRel) hr TB hcode Sc hi he hs I h fun a s5 hB => Calls.spliced_nil ?_)
  obtain ⟨g, cd, H4, hgen, hfresh, I5, ha, wake⟩ := hB
  refine call_function_tree F.kind_max F.plain_max F.entry_max (F.args_max1 _) ?_
  show wpAny _ X.A.in1 (Builtin.Builtins.bindParams "max" ["key", "default"] 0 ⟨[], []⟩ >>= _) _ _ s5
  refine wpAny_bind (wpAny_of_eq (show Builtin.Builtins.bindParams "max" ["key", "default"] 0 ⟨[], []⟩ = pure [none, none] from rfl) ?_)
  refine wpAny_bind (wpAny_pure (wpAny_bind (wpAny_pyIter_gen hgen ?_)))
  refine wpAny_bind (wpAny_newObj_type ?_)
  rw [hname]
  have hS5 : (s5.heap.push { cls := .type "list", data := .seq #[] }).get? s5.heap.objs.size = some (lstObj #[] 0) := Heap.get?_push_size _ rfl
  have kp5 : ∀ b o, s5.heap.get? b = some o → (s5.heap.push { cls := .type "list", data := .seq #[] }).get? b = some o := fun b o e => Heap.get?_push_of_some _ e
  have I6 : Inv X pins σ H4 { s5 with heap := s5.heap.push { cls := .type "list", data := .seq #[] } } := regens I5 rfl kp5 I5.bare
  obtain ⟨Z, q, W, m0, fin, seg⟩ := wake X.A.in1.in1 (some s5.heap.objs.size) (({ s5 with heap := s5.heap.push { cls := .type "list", data := .seq #[] } } : Shared).setGen g .running) ((hr.mono (by omega : k + 1 + 1 + 1 ≤ k + 3)).in1.in1) I.ok.frames
    (fun S z => by cases z; exact ⟨Nat.le_refl _, #[], 0, hS5, [], rfl, .inl ⟨rfl, rfl⟩⟩) kp5 rfl (allBare_setGen I6.bare rfl)
  have hcl : cStatics < s5.heap.objs.size := let ⟨_, hn, _⟩ := I5.nolimit; hn.lt
  refine wpAny_pure ⟨plainId_quiet F.plain_max_loop _, max_turns (Qm := fun b H => Q (.int b) H) hr.hd hr.depth (Nat.ne_of_gt ha) (Nat.ne_of_gt hcl) fin (fun ps σz Hz s7 acc c' s8 J eps k8 o8 b8 => ?_) (fun b t H' s' I' hq => ?_) (m0 + 1) _ #[] 0 (.inl rfl) hS5 (hgen.keeps kp5) I6.nolimit ⟨_, hfresh, rfl, seg⟩⟩
  · subst eps
    obtain ⟨h1, h2, h3, h4, _⟩ := J.pin (s5.heap.objs.size, lstObj acc c') (List.mem_append_right _ (List.mem_append_right _ (List.mem_singleton.mpr rfl)))
    obtain ⟨I7, _⟩ := fin _ _ _ _ J
    have ni : ∀ b : Addr, b ∉ [s5.heap.objs.size] → b ≠ s5.heap.objs.size := fun b hb e => hb (by rw [e]; exact List.mem_singleton.mpr rfl)
    have nS : ∀ b u, Hz b = some u → b ≠ s5.heap.objs.size := fun b u e z => by rw [z, h2] at e; cases e
    have kp8 : ∀ b o, b ∉ [s5.heap.objs.size] → s7.heap.get? b = some o → s8.heap.get? b = some o := fun b o hb e => k8 b o (ni b hb) e
    refine I7.call' (ch := [s5.heap.objs.size]) o8 ⟨fun b o e _ _ hx => kp8 b o hx e, fun b o e _ _ hx => ⟨o.slots, kp8 b o hx e⟩, fun _ _ _ n _ => n, fun b o e hx => ⟨o, kp8 b o hx e⟩,
      fun _ _ e => e, fun _ _ _ e => e, fun _ _ e => ⟨#[], by rw [e]; simp⟩⟩ (fun b u e => ?_) b8 fun b hb => ?_
    · refine (I7.hok b u e).stay (fun d v hd z => k8 d v ?_ z) (fun _ z => z) fun _ _ z => z
      rcases hd with z | z
      · rw [z]; exact nS b u e
      · exact nS d _ z
    · rw [List.mem_singleton.mp hb]
      obtain ⟨_, a2, _, a4, a5, a6⟩ := I5.fpOk (Nat.le_refl _) h2
      exact ⟨a4, a2, a5, a6⟩
  · exact ⟨.int b, H', I', ⟨t, rfl⟩, hq⟩
end
end Gx
namespace TG
open PySem L2
def top (i : Nat) : Stmt := PySem.Challenge.pw_tabgrow_k33_hands_refused.main.body.getD i (.Pass ⟨0, 0, 0, 0⟩)
abbrev s_is_whole : Stmt := top 24
abbrev s_is_sign : Stmt := top 25
abbrev s_is_text : Stmt := top 26
abbrev s_filled : Stmt := top 27
abbrev s_is_row : Stmt := top 28
abbrev s_misfit : Stmt := top 29
abbrev s_check_page : Stmt := top 30
abbrev s_check_style : Stmt := top 31
abbrev s_stretches : Stmt := top 33
abbrev s_closed_runs : Stmt := top 34
abbrev s_is_closed : Stmt := top 35
abbrev s_described : Stmt := top 36
abbrev s_stands_right : Stmt := top 37
abbrev s_is_figures : Stmt := top 38
abbrev s_laid : Stmt := top 40
abbrev s_closed_cells : Stmt := top 41
abbrev s_left_ends : Stmt := top 42
abbrev s_begins_of : Stmt := top 43
abbrev s_written : Stmt := top 45
abbrev s_rows_of : Stmt := top 46
abbrev s_begun : Stmt := top 56
abbrev s_take : Stmt := top 57
abbrev s_alike : Stmt := top 58
abbrev s_told : Stmt := top 59
abbrev s_all : Stmt := top 60
abbrev s_sign : Stmt := top 61
abbrev s_cell : Stmt := top 62
abbrev s_row : Stmt := top 63
abbrev s_page : Stmt := top 64
abbrev s_style : Stmt := top 65
abbrev s_first : Stmt := top 66
abbrev s_lshown : Stmt := top 67
abbrev s_too_much : Stmt := top 68
abbrev s_law : Stmt := top 69
/-- the built-ins that the text calls are the built-ins still -/
structure Txt (mg : Str → Option Value) : Prop where
  isin : mg "isinstance" = none
  len : mg "len" = none
  range : mg "range" = none
  max : mg "max" = none
  min : mg "min" = none
  all : mg "all" = none
  str : mg "str" = none
  int : mg "int" = none
  bool : mg "bool" = none
  list : mg "list" = none
  tuple : mg "tuple" = none
  enum : mg "enumerate" = none
  ord : mg "ord" = none
def BoxAt (H : Hp) (b l : Addr) : Prop := ∃ (ns : List Int) (st : Int), H b = some (.lst [.ref l, .int st]) ∧ H l = some (.lst (ns.map V.int)) ∧ ns.length ≤ 63
/-- all but the box stays -/
def KB (b l : Addr) (H H' : Hp) : Prop := ∀ c o, H c = some o → c ≠ b → c ≠ l → H' c = some o
theorem KB.refl {b l : Addr} {H : Hp} : KB b l H H := fun _ _ h _ _ => h
theorem KB.trans {b l : Addr} {H H1 H2 : Hp} (x : KB b l H H1) (y : KB b l H1 H2) : KB b l H H2 := fun c o h n m => y c o (x c o h n m) n m
theorem box_ne {H : Hp} {b l : Addr} (x : BoxAt H b l) : b ≠ l := by
  obtain ⟨ns, st, h1, h2, _⟩ := x
  refine ne_of h1 h2 fun z => ?_
  injection z with z
  cases ns with
  | nil => cases z
  | cons n ns =>
    rw [List.map_cons] at z
    injection z with z _
    cases z
theorem nz {i : Int} (h : i ≠ 0) : i ≠ 0 := h
theorem at0 {α : Type} {v : α} {xs : List α} : atI (v :: xs) 0 = some v := atI_nat (j := 0) rfl
theorem ix0 {n : Nat} : ixN (n + 1) 0 = some 0 := by
  unfold ixN
  rw [if_pos (by decide), if_pos (by omega)]
  rfl
theorem small0 : ([] : List V).length ≤ sizeLine := Nat.zero_le _
theorem dp_ints {K : PySem.W.Frag} {H : Hp} : ∀ ns : List Int, DpAll K H (ns.map V.int) (ns.map PyData.int)
  | [] => .nil
  | n :: ns => .cons (.int n) (dp_ints ns)
theorem canAll_ints : ∀ ns : List Int, PyData.canLayAll0 (ns.map PyData.int) = true
  | [] => rfl
  | _ :: r => by simp [PyData.canLayAll0, PyData.canLay0, canAll_ints r]
theorem depthAll_ints : ∀ ns : List Int, PyData.depthAll (ns.map PyData.int) = 0
  | [] => rfl
  | _ :: r => by simp [PyData.depthAll, PyData.depth, depthAll_ints r]
theorem shaped_of_ints (ns : List Int) : SeqAt.shaped (.list (ns.map PyData.int)) = true := by
  simp [SeqAt.shaped, PyData.canLay0, PyData.depth, canAll_ints, depthAll_ints]
def spTake : Sp := fun vs H Q _ => ∃ (b l : Addr) (many : Int), vs = [.ref b, .int many] ∧ BoxAt H b l ∧ 0 < many ∧ many < 1073741824 ∧
  ∀ (r : Int) (H' : Hp), 0 ≤ r → r < many → BoxAt H' b l → KB b l H H' → Q (.int r) H'
section
variable {P : Program} {w : World} {K : PySem.W.Frag} {mg : Str → Option Value} {base : Heap}
theorem sc_take : FnScope ["_law_box", "_law_many", "_law_number"] ["_law_box", "_law_many"] (defScope s_take) := ⟨rfl, rfl, rfl, by decide +kernel, rfl, by decide +kernel, by decide +kernel⟩
theorem ok_take {f : Addr} {fd : FuncData} (F : Fun K "_law_take" "_law_take" s_take f fd) : FnOk P w K mg base CX0 1 f fd ["_law_box", "_law_many"] spTake := by
  refine F.ok sc_take (fun vs H Q E h => ?_) (fun cdv A outer s H vs Q E hr h => ?_)
  · obtain ⟨b, l, many, rfl, _⟩ := h
    rfl
  · obtain ⟨b, l, many, rfl, hB, m0, m1, k⟩ := h
    have nd := sc_take.nd
    have hu := hr.units
    refine ⟨_, pss_cons (ps_if (pt_cmpR (op_eqD hu) (pe_ix ix_list (pv 0) pe_int (fun _ _ => rfl)) (pe_lst pa_nil) (nomark _))
        (pss_cons (ps_asg (pe_op op_modN (pe_op op_mul (pe_ix ix_list (pv 0) pe_int (fun _ _ => rfl)) pe_int) pe_int) (pg_sub (pv 0) pe_int set_list))
          (pss_one (ps_ret (pe_op op_modN (pe_op op_fdivN (pe_ix ix_list (pv 0) pe_int (fun _ _ => rfl)) pe_int) (pv 1))))) pss_nil)
      (pss_cons (ps_set (i := 2) nd rfl (.inl rfl) (pe_ix ix_list (pe_ix ix_list (pv 0) pe_int (fun _ _ => rfl)) pe_int (fun _ _ => rfl)))
      (pss_cons (ps_asg (pe_op op_fdivN (pv 2) (pv 1)) (pg_sub (pe_ix ix_list (pv 0) pe_int (fun _ _ => rfl)) pe_int set_list))
      (pss_cons (ps_if (PW.pt (pw_or (pt_cmpR op_eq (pe_ix ix_list (pe_ix ix_list (pv 0) pe_int (fun _ _ => rfl)) pe_int (fun _ _ => rfl)) pe_int (nomark _)) (pw_or1 (pt_cmpR op_eq (pe_ix ix_list (pe_ix ix_list (pv 0) pe_int (fun _ _ => rfl)) pe_int (fun _ _ => rfl)) (pe_un un_neg pe_int) (nomark _)))))
          (pss_one (ps_expr (pe_bm PySem.F.plainAttrs_list PySem.F.slot_list_pop PySem.F.type_list_pop mt_popAt (pe_ix ix_list (pv 0) pe_int (fun _ _ => rfl)) (pa_cons pe_int pa_nil)))) pss_nil)
      (pss_one (ps_ret (pe_op op_modN (pv 2) (pv 1))))))), ?_⟩
    obtain ⟨ns, st, h1, h2, h3⟩ := id hB
    have nbl := box_ne hB
    have len2 : ∀ o, (upd H b o) l = some (.lst (ns.map V.int)) := fun o => by rw [upd_ne nbl.symm]; exact h2
    -- _law_box[0] == []
    refine ⟨_, rfl, b, _, 0, .ref l, rfl, rfl, SqL.of h1, rfl, small0, fun p np => ?_⟩
    have npb : b ≠ p := ne_of_none h1 np
    have npl : l ≠ p := ne_of_none h2 np
    have g1 : (upd H p (.lst [])) b = some (.lst [.ref l, .int st]) := by rw [upd_ne npb]; exact h1
    have g2 : (upd H p (.lst [])) l = some (.lst (ns.map V.int)) := by rw [upd_ne npl]; exact h2
    have kp : KB b l H (upd H p (.lst [])) := fun c o e _ _ => by rw [upd_ne (ne_of_none e np)]; exact e
    refine ⟨.list (ns.map PyData.int), .list [], .lst (SqL.of g2) (dp_ints ns), .lst (SqL.of upd_same) .nil, shaped_of_ints ns, rfl, _, rfl, ?_⟩
    cases ns with
    | nil =>
      refine iteT ?_
      refine ⟨_, rfl, b, _, 1, .int st, rfl, rfl, SqL.of g1, rfl, st, 48271, rfl, rfl, .inr (by decide), _, _, rfl, rfl, nz (by decide), _, rfl, b, _, 1, 1, rfl, rfl, g1, rfl, ?_⟩
      refine ⟨_, rfl, b, _, 1, _, rfl, rfl, SqL.of upd_same, rfl, _, _, rfl, rfl, ⟨by decide, by decide⟩, _, rfl, _, _, rfl, rfl, nz (by omega), ?_⟩
      refine k _ _ (Int.fmod_nonneg_of_pos _ m0) (Int.fmod_lt_of_pos _ m0) ⟨[], _, upd_same, by rw [upd_ne nbl.symm]; exact g2, h3⟩ fun c o e hc hl => ?_
      rw [upd_ne hc]
      exact kp c o e hc hl
    | cons n ns =>
      refine iteF ?_
      refine ⟨_, rfl, b, _, 0, .ref l, rfl, rfl, SqL.of g1, rfl, l, _, 0, .int n, rfl, rfl, SqL.of g2, at0, ?_⟩
      refine ⟨_, rfl, _, rfl, n, many, rfl, rfl, ⟨by omega, by omega⟩, _, rfl, b, _, 0, .ref l, rfl, rfl, SqL.of g1, rfl, l, _, 0, 0, rfl, rfl, g2, ix0, ?_⟩
      have j1 : ∀ o, (upd (upd H p (.lst [])) l o) b = some (.lst [.ref l, .int st]) := fun o => by rw [upd_ne nbl]; exact g1
      have kl : ∀ o, KB b l H (upd (upd H p (.lst [])) l o) := fun o c u e hc hl => by rw [upd_ne hl]; exact kp c u e hc hl
      have fin : ∀ ms : List Int, ms.length ≤ 63 → Q (.int (n.fmod many)) (upd (upd H p (.lst [])) l (.lst (ms.map V.int))) := fun ms hm =>
        k _ _ (Int.fmod_nonneg_of_pos _ m0) (Int.fmod_lt_of_pos _ m0) ⟨ms, st, j1 _, upd_same, hm⟩ (kl _)
      have e0 : (List.map V.int (n :: ns)).set 0 (V.int (n.fdiv many)) = List.map V.int (n.fdiv many :: ns) := rfl
      rw [e0]
      -- == 0 or == -1
      refine ⟨_, rfl, b, _, 0, .ref l, rfl, rfl, SqL.of (j1 _), rfl, l, _, 0, .int (n.fdiv many), rfl, rfl, SqL.of upd_same, at0, rfl, _, rfl, ?_⟩
      have done : ∀ H', (∃ ms : List Int, ms.length ≤ 63 ∧ H' = upd (upd H p (.lst [])) l (.lst (ms.map V.int))) → ∃ v, ([some (V.ref b), some (V.int many), some (V.int n)] : L2.St)[2]? = some (some v) ∧ ∃ v_1, ([some (V.ref b), some (V.int many), some (V.int n)] : L2.St)[1]? = some (some v_1) ∧ ∃ i j, v = V.int i ∧ v_1 = V.int j ∧ j ≠ 0 ∧ Q (V.int (i.fmod j)) H' := fun H' ⟨ms, hm, e⟩ => by
        subst e
        exact ⟨_, rfl, _, rfl, n, many, rfl, rfl, nz (by omega), fin ms hm⟩
      have pop : ∀ Z : VK, (∀ y H', H' = upd (upd H p (.lst [])) l (.lst (ns.map V.int)) → Z y H') → rPopAt (.ref l) [.int 0] (upd (upd H p (.lst [])) l (.lst (List.map V.int (n.fdiv many :: ns)))) Z := fun Z hZ =>
        ⟨l, _, 0, 0, _, rfl, rfl, upd_same, by decide, by decide, by simp [seqIndex?], rfl, hZ _ _ (by rw [upd_upd]; rfl)⟩
      have h3' : ns.length ≤ 63 := by simp at h3; omega
      by_cases hz : n.fdiv many = 0
      · rw [decide_eq_true (show V.int (n.fdiv many) = V.int 0 by rw [hz])]
        refine iteT (iteT ⟨_, rfl, b, _, 0, .ref l, rfl, rfl, SqL.of (j1 _), rfl, .inl ⟨rfl, _, SqL.of upd_same⟩, pop _ fun y H' e => done H' ⟨ns, h3', e⟩⟩)
      · rw [decide_eq_false (show ¬ V.int (n.fdiv many) = V.int 0 from fun z => hz (by injection z))]
        refine iteF ⟨_, rfl, b, _, 0, .ref l, rfl, rfl, SqL.of (j1 _), rfl, l, _, 0, .int (n.fdiv many), rfl, rfl, SqL.of upd_same, at0, 1, rfl, rfl, _, rfl, ?_⟩
        refine ite2 (fun _ => ⟨_, rfl, b, _, 0, .ref l, rfl, rfl, SqL.of (j1 _), rfl, .inl ⟨rfl, _, SqL.of upd_same⟩, pop _ fun y H' e => done H' ⟨ns, h3', e⟩⟩) fun _ => ?_
        exact done _ ⟨n.fdiv many :: ns, h3, rfl⟩
end
end TG
namespace TG
open PySem L2
section
variable {P : Program} {w : World} {K : PySem.W.Frag} {mg : Str → Option Value} {base : Heap}
def spBegun (K : PySem.W.Frag) : Sp := fun vs H Q _ => ∃ (a : Addr) (ns : List Int), vs = [.ref a] ∧ SqL K H a (ns.map V.int) ∧ ns.length ≤ 63 ∧
  ∀ (b l : Addr) (H' : Hp), BoxAt H' b l → Same H H' → H b = none → H l = none → Q (.ref b) H'
theorem sc_begun : FnScope ["_law_script", "_law_stirred", "_law_cell_here"] ["_law_script"] (defScope s_begun) := ⟨rfl, rfl, rfl, by decide +kernel, rfl, by decide +kernel, by decide +kernel⟩
theorem ok_begun {f : Addr} {fd : FuncData} (T : Txt mg) (F : Fun K "_law_begun" "_law_begun" s_begun f fd) : FnOk P w K mg base CX0 1 f fd ["_law_script"] (spBegun K) := by
  refine F.ok sc_begun (fun vs H Q E h => ?_) (fun cdv A outer s H vs Q E hr h => ?_)
  · obtain ⟨a, ns, rfl, _⟩ := h
    rfl
  · obtain ⟨a, ns, rfl, hS, hl, k⟩ := h
    have nd := sc_begun.nd
    refine ⟨_, pss_cons (ps_set (i := 1) nd rfl (.inl rfl) pe_int) (pss_cons (ps_for PassesOwn.never rfl (pi_list (pv 0)) (pg_name (i := 2) nd rfl (.inl rfl))
        (pss_one (ps_set (i := 1) nd rfl (.inl rfl) (pe_op op_modN (pe_op op_add (pe_op op_add (pe_op op_mul (pv 1) pe_int) (pe_op op_mul (pv 2) pe_int)) pe_int) pe_int))))
      (pss_one (ps_ret (pe_lst (pa_cons (pe_callTy call_list_of (by rfl) T.list (by decide +kernel) (pa_cons (pv 0) pa_nil))
        (pa_cons (pe_op op_mul (pv 1) (pe_callTy call_int1 (by rfl) T.int (by decide +kernel) (pa_cons (pe_cmpR op_gt (pe_callB call_len_seq (by rfl) T.len PySem.boot_len (pa_cons (pv 0) pa_nil)) pe_int (nomark _)) pa_nil))) pa_nil)))))), ?_⟩
    refine ⟨_, rfl, a, rfl, ⟨_, hS⟩, for_list (xs := ns.map V.int) (fun _ σ H1 => H1 = H ∧ ∃ st c, σ = [some (.ref a), some (.int st), c]) ⟨rfl, 0, _, rfl⟩ (fun i σ H1 _ p => by rw [p.1]; exact hS) ?_ ?_⟩
    · rintro i x σ H1 hx ⟨rfl, st, c, rfl⟩
      obtain ⟨n, rfl⟩ : ∃ n, x = V.int n := by
        rw [List.getElem?_map] at hx
        cases e : ns[i]? with
        | none => rw [e] at hx; cases hx
        | some n => rw [e] at hx; cases hx; exact ⟨n, rfl⟩
      exact ⟨_, rfl, st, 48271, rfl, rfl, .inr (by decide), _, rfl, n, 69621, rfl, rfl, .inr (by decide), _, _, rfl, rfl, _, 11, rfl, rfl, _, 2147483647, rfl, rfl, nz (by decide), rfl, _, _, rfl⟩
    · rintro σ H1 ⟨rfl, st, c, rfl⟩
      refine ⟨_, rfl, a, _, rfl, .inl hS, fun l nl => ?_⟩
      have hS2 : SqL K (upd H1 l (.lst (ns.map V.int))) a (ns.map V.int) := by
        rcases hS with (z | ⟨o, z⟩) | z
        · exact .inl (.inl (by rw [upd_ne (ne_of_none z nl)]; exact z))
        · exact .inl (.inr ⟨o, by rw [upd_ne (ne_of_none z nl)]; exact z⟩)
        · exact .inr z
      refine ⟨_, rfl, _, rfl, a, _, rfl, .inl hS2, _, 2, rfl, rfl, .inr ⟨_, rfl, st, _, rfl, rfl, .inr (by split <;> decide), (by show 2 ≤ sizeLine; decide), fun b nb => ?_⟩⟩
      have nb1 : H1 b = none := by
        by_cases e : b = l
        · rw [e, upd_same] at nb; cases nb
        · rw [upd_ne e] at nb; exact nb
      have nlb : l ≠ b := fun z => by rw [← z, upd_same] at nb; cases nb
      refine k b l _ ⟨ns, _, upd_same, by rw [upd_ne nlb, upd_same], hl⟩ (fun c o e => ?_) nb1 nl
      rw [upd_ne (ne_of_none e nb1), upd_ne (ne_of_none e nl)]
      exact e
mutual
def dok : PyData → Bool
  | .list xs | .tuple xs => decide (xs.length ≤ 1000) && dokAll xs
  | .dict _ => false
  | .none | .bool _ | .int _ | .str _ => true
def dokAll : List PyData → Bool
  | [] => true
  | x :: xs => dok x && dokAll xs
end
theorem dokAll_get : ∀ {ds : List PyData} {i : Nat} {d : PyData}, dokAll ds = true → ds[i]? = some d → dok d = true
  | [], _, _, _, h => by simp at h
  | x :: xs, 0, d, h, e => by
    simp only [dokAll, Bool.and_eq_true] at h
    cases e
    exact h.1
  | x :: xs, i + 1, d, h, e => by
    simp only [dokAll, Bool.and_eq_true] at h
    exact dokAll_get h.2 (by simpa using e)
theorem depthAll_get : ∀ {ds : List PyData} {i : Nat} {d : PyData}, ds[i]? = some d → d.depth ≤ PyData.depthAll ds
  | [], _, _, h => by simp at h
  | x :: xs, 0, d, e => by
    cases e
    simp only [PyData.depthAll]
    exact Nat.le_max_left _ _
  | x :: xs, i + 1, d, e => by
    simp only [PyData.depthAll]
    exact Nat.le_trans (depthAll_get (i := i) (by simpa using e)) (Nat.le_max_right _ _)
theorem dp_len {H : Hp} : ∀ {vs : List V} {ds : List PyData}, DpAll K H vs ds → vs.length = ds.length
  | [], [], _ => rfl
  | _ :: _, _ :: _, h => by
    cases h with
    | cons _ t => rw [List.length_cons, List.length_cons, dp_len t]
theorem dp_get {H : Hp} : ∀ {vs : List V} {ds : List PyData} {i : Nat} {v : V}, DpAll K H vs ds → vs[i]? = some v → ∃ d, ds[i]? = some d ∧ Dp K H v d
  | [], [], _, _, _, h => by simp at h
  | x :: vs, y :: ds, 0, v, h, e => by
    cases h with
    | cons h1 _ =>
      cases e
      exact ⟨y, rfl, h1⟩
  | x :: vs, y :: ds, i + 1, v, h, e => by
    cases h with
    | cons _ h2 => simpa using dp_get (i := i) h2 (by simpa using e)
theorem ty_list {H : Hp} {a : Addr} {xs : List V} (h : SqL K H a xs) : TyX K H (.ref a) (.type "list") := by
  rcases h with (z | ⟨o, z⟩) | ⟨o, its, n, z, c, _⟩
  · exact .base (.lst z)
  · exact .base (.frz z)
  · exact .kList z c
theorem ty_tup {H : Hp} {a : Addr} {xs : List V} (h : SqT K H a xs) : TyX K H (.ref a) (.type "tuple") := by
  rcases h with (z | ⟨o, z⟩) | ⟨o, its, n, z, c, _⟩
  · exact .base (.tup z)
  · exact .fTuple z
  · exact .kTuple z c
def spAlike (K : PySem.W.Frag) (n : Nat) : Sp := fun vs H Q _ => ∃ (x y : V) (d : PyData), vs = [x, y] ∧ Dp K H x d ∧ Dp K H y d ∧ d.depth < n ∧ dok d = true ∧ Q (.bl true) H
theorem sc_alike : FnScope ["_law_found", "_law_due", "_law_k"] ["_law_found", "_law_due"] (defScope s_alike) := ⟨rfl, rfl, rfl, by decide +kernel, rfl, by decide +kernel, by decide +kernel⟩
theorem ok_alike {f : Addr} {fd : FuncData} (T : Txt mg) (F : Fun K "_law_alike" "_law_alike" s_alike f fd) (b : Binds K fd ["_law_found", "_law_due"] []) (mgf : mg "_law_alike" = some (.ref f)) : ∀ n, FnOk P w K mg base CX0 (n + 1) f fd ["_law_found", "_law_due"] (spAlike K n) := by
  intro n
  induction n with
  | zero =>
    refine F.ok sc_alike (fun vs H Q E h => ?_) (fun cdv A outer s H vs Q E hr h => ?_)
    · obtain ⟨x, y, d, rfl, _⟩ := h
      rfl
    · obtain ⟨x, y, d, rfl, _, _, h, _⟩ := h
      exact absurd h (Nat.not_lt_zero _)
  | succ n G =>
    refine F.ok sc_alike (fun vs H Q E h => ?_) (fun cdv A outer s H vs Q E hr h => ?_)
    · obtain ⟨x, y, d, rfl, _⟩ := h
      rfl
    · obtain ⟨x, y, d, rfl, hx, hy, hd, hk, k⟩ := h
      have nd := sc_alike.nd
      refine ⟨_, pss_cons (ps_if (pt_cmpR op_isN (pv 1) pe_non (nomark _)) (pss_one (ps_ret (pe_cmpR op_isN (pv 0) pe_non (nomark _)))) pss_nil)
        (pss_cons (ps_if (pt_val (pe_callB call_isi (by rfl) T.isin (by decide +kernel) (pa_cons (pv 1) (pa_cons (pe_bltn (v := .ty "bool") (by rfl) T.bool (by decide +kernel) rfl) pa_nil)))) (pss_one (ps_ret (pe_and (pe_callB call_isi (by rfl) T.isin (by decide +kernel) (pa_cons (pv 0) (pa_cons (pe_bltn (v := .ty "bool") (by rfl) T.bool (by decide +kernel) rfl) pa_nil))) (pe_one (pe_cmpR op_eq (pv 0) (pv 1) (nomark _)))))) pss_nil)
        (pss_cons (ps_if (pt_val (pe_callB call_isi (by rfl) T.isin (by decide +kernel) (pa_cons (pv 1) (pa_cons (pe_bltn (v := .ty "int") (by rfl) T.int (by decide +kernel) rfl) pa_nil)))) (pss_one (ps_ret (pe_and (pe_callB call_isi (by rfl) T.isin (by decide +kernel) (pa_cons (pv 0) (pa_cons (pe_bltn (v := .ty "int") (by rfl) T.int (by decide +kernel) rfl) pa_nil))) (pe_and (pe_not (pe_callB call_isi (by rfl) T.isin (by decide +kernel) (pa_cons (pv 0) (pa_cons (pe_bltn (v := .ty "bool") (by rfl) T.bool (by decide +kernel) rfl) pa_nil)))) (pe_one (pe_cmpR op_eq (pv 0) (pv 1) (nomark _))))))) pss_nil)
        (pss_cons (ps_if (pt_val (pe_callB call_isi (by rfl) T.isin (by decide +kernel) (pa_cons (pv 1) (pa_cons (pe_bltn (v := .ty "str") (by rfl) T.str (by decide +kernel) rfl) pa_nil)))) (pss_one (ps_ret (pe_and (pe_callB call_isi (by rfl) T.isin (by decide +kernel) (pa_cons (pv 0) (pa_cons (pe_bltn (v := .ty "str") (by rfl) T.str (by decide +kernel) rfl) pa_nil))) (pe_one (pe_cmpR op_eq (pv 0) (pv 1) (nomark _)))))) pss_nil)
        (pss_cons (ps_if (PW.pt (pw_or (pt_cmpR op_ne (pe_callB call_isi (by rfl) T.isin (by decide +kernel) (pa_cons (pv 1) (pa_cons (pe_bltn (v := .ty "tuple") (by rfl) T.tuple (by decide +kernel) rfl) pa_nil))) (pe_callB call_isi (by rfl) T.isin (by decide +kernel) (pa_cons (pv 0) (pa_cons (pe_bltn (v := .ty "tuple") (by rfl) T.tuple (by decide +kernel) rfl) pa_nil))) (nomark _))
            (pw_or1 (pt_cmpR op_ne (pe_callB call_isi (by rfl) T.isin (by decide +kernel) (pa_cons (pv 1) (pa_cons (pe_bltn (v := .ty "list") (by rfl) T.list (by decide +kernel) rfl) pa_nil))) (pe_callB call_isi (by rfl) T.isin (by decide +kernel) (pa_cons (pv 0) (pa_cons (pe_bltn (v := .ty "list") (by rfl) T.list (by decide +kernel) rfl) pa_nil))) (nomark _))))) (pss_one (ps_ret pe_bl)) pss_nil)
        (pss_cons (ps_if (pt_cmpR op_ne (pe_callB call_len_seq (by rfl) T.len PySem.boot_len (pa_cons (pv 0) pa_nil)) (pe_callB call_len_seq (by rfl) T.len PySem.boot_len (pa_cons (pv 1) pa_nil)) (nomark _)) (pss_one (ps_ret pe_bl)) pss_nil)
        (pss_cons (ps_for PassesOwn.never rfl (pi_range1 (by rfl) T.range (pa_cons (pe_callB call_len_seq (by rfl) T.len PySem.boot_len (pa_cons (pv 1) pa_nil)) pa_nil)) (pg_name (i := 2) nd rfl (.inl rfl))
          (pss_one (ps_if (pt_not (pt_val (pe_call G hr (by rfl) mgf F.kp b .nil pass0 (pa_cons (pe_ix ix_seq (pv 0) (pv 2) (fun _ _ => rfl)) (pa_cons (pe_ix ix_seq (pv 1) (pv 2) (fun _ _ => rfl)) pa_nil))))) (pss_one (ps_ret pe_bl)) pss_nil)))
        (pss_one (ps_ret pe_bl)))))))), ?_⟩
      cases hx with
      | non =>
        cases hy
        exact ⟨_, rfl, rfl, true, rfl, iteT ⟨_, rfl, rfl, k⟩⟩
      | bl c =>
        cases hy
        exact ⟨_, rfl, rfl, false, rfl, iteF ⟨_, rfl, _, _, _, _, true, rfl, .ty _, (.base (.bl c)), kit_ty (by decide +kernel), true, rfl, iteT ⟨_, rfl, _, _, _, _, true, rfl, .ty _, (.base (.bl c)), kit_ty (by decide +kernel), true, rfl, iteT ⟨_, rfl, _, rfl, rfl, by simpa using k⟩⟩⟩⟩
      | int i =>
        cases hy
        exact ⟨_, rfl, rfl, false, rfl, iteF ⟨_, rfl, _, _, _, _, false, rfl, .ty _, (.base (.int i)), kit_ty (by decide +kernel), false, rfl, iteF ⟨_, rfl, _, _, _, _, true, rfl, .ty _, (.base (.int i)), kit_ty (by decide +kernel), true, rfl, iteT ⟨_, rfl, _, _, _, _, true, rfl, .ty _, (.base (.int i)), kit_ty (by decide +kernel), true, rfl, iteT
          ⟨_, rfl, _, _, _, _, false, rfl, .ty _, (.base (.int i)), kit_ty (by decide +kernel), false, rfl, true, rfl, iteT ⟨_, rfl, _, rfl, rfl, by simpa using k⟩⟩⟩⟩⟩⟩
      | str z =>
        cases hy
        exact ⟨_, rfl, rfl, false, rfl, iteF ⟨_, rfl, _, _, _, _, false, rfl, .ty _, (.base (.str z)), kit_ty (by decide +kernel), false, rfl, iteF ⟨_, rfl, _, _, _, _, false, rfl, .ty _, (.base (.str z)), kit_ty (by decide +kernel), false, rfl, iteF ⟨_, rfl, _, _, _, _, true, rfl, .ty _, (.base (.str z)), kit_ty (by decide +kernel), true, rfl, iteT
          ⟨_, rfl, _, _, _, _, true, rfl, .ty _, (.base (.str z)), kit_ty (by decide +kernel), true, rfl, iteT ⟨_, rfl, _, rfl, rfl, by simpa using k⟩⟩⟩⟩⟩⟩
      | @lst p xs ds sx ax =>
        cases hy with
        | @lst q ys _ sy ay =>
          refine ⟨_, rfl, rfl, false, rfl, iteF ⟨_, rfl, _, _, _, _, false, rfl, .ty _, (ty_list sy), kit_ty (by decide +kernel), false, rfl, iteF ⟨_, rfl, _, _, _, _, false, rfl, .ty _, (ty_list sy), kit_ty (by decide +kernel), false, rfl, iteF ⟨_, rfl, _, _, _, _, false, rfl, .ty _, (ty_list sy), kit_ty (by decide +kernel), false, rfl, iteF
            ⟨_, rfl, _, _, _, _, false, rfl, .ty _, (ty_list sy), kit_ty (by decide +kernel), _, rfl, _, _, _, _, false, rfl, .ty _, (ty_list sx), kit_ty (by decide +kernel), rfl, false, rfl, iteF ⟨_, rfl, _, _, _, _, true, rfl, .ty _, (ty_list sy), kit_ty (by decide +kernel), _, rfl, _, _, _, _, true, rfl, .ty _, (ty_list sx), kit_ty (by decide +kernel), rfl, false, rfl, iteF ?_⟩⟩⟩⟩⟩⟩
          simp only [dok, Bool.and_eq_true, decide_eq_true_eq] at hk
          simp only [PyData.depth] at hd
          have lx := dp_len ax
          have ly := dp_len ay
          refine ⟨_, rfl, p, xs, rfl, .inl sx, _, rfl, q, ys, rfl, .inl sy, rfl, false, by rw [lx, ly]; simp, iteF ?_⟩
          refine ⟨_, rfl, q, ys, rfl, .inl sy, _, rfl, by omega, by omega, for_range (n := (ys.length : Int).toNat) (fun _ σ H' => H' = H ∧ ∃ c, σ = [some (.ref p), some (.ref q), c]) ⟨rfl, _, rfl⟩ ?_ ?_⟩
          · rintro i σ H' hi ⟨rfl, c, rfl⟩
            have hi1 : i < xs.length := by omega
            have hi2 : i < ys.length := by omega
            obtain ⟨d1, e1, dx⟩ := dp_get ax (List.getElem?_eq_getElem hi1)
            obtain ⟨d2, e2, dy⟩ := dp_get ay (List.getElem?_eq_getElem hi2)
            rw [e1] at e2
            cases e2
            refine ⟨_, rfl, _, rfl, .inl ⟨p, xs, _, _, rfl, rfl, sx, by rw [Int.zero_add]; exact atI_nat (List.getElem?_eq_getElem hi1), ⟨_, rfl, _, rfl, .inl ⟨q, ys, _, _, rfl, rfl, sy, by rw [Int.zero_add]; exact atI_nat (List.getElem?_eq_getElem hi2), ?_⟩⟩⟩⟩
            exact ⟨_, _, d1, rfl, dx, dy, by have := depthAll_get e1; omega, dokAll_get hk.2 e1, true, rfl, iteF ⟨rfl, _, rfl⟩⟩
          · rintro σ H' ⟨rfl, c, rfl⟩
            exact k
      | @tup p xs ds sx ax =>
        cases hy with
        | @tup q ys _ sy ay =>
          refine ⟨_, rfl, rfl, false, rfl, iteF ⟨_, rfl, _, _, _, _, false, rfl, .ty _, (ty_tup sy), kit_ty (by decide +kernel), false, rfl, iteF ⟨_, rfl, _, _, _, _, false, rfl, .ty _, (ty_tup sy), kit_ty (by decide +kernel), false, rfl, iteF ⟨_, rfl, _, _, _, _, false, rfl, .ty _, (ty_tup sy), kit_ty (by decide +kernel), false, rfl, iteF
            ⟨_, rfl, _, _, _, _, true, rfl, .ty _, (ty_tup sy), kit_ty (by decide +kernel), _, rfl, _, _, _, _, true, rfl, .ty _, (ty_tup sx), kit_ty (by decide +kernel), rfl, false, rfl, iteF ⟨_, rfl, _, _, _, _, false, rfl, .ty _, (ty_tup sy), kit_ty (by decide +kernel), _, rfl, _, _, _, _, false, rfl, .ty _, (ty_tup sx), kit_ty (by decide +kernel), rfl, false, rfl, iteF ?_⟩⟩⟩⟩⟩⟩
          simp only [dok, Bool.and_eq_true, decide_eq_true_eq] at hk
          simp only [PyData.depth] at hd
          have lx := dp_len ax
          have ly := dp_len ay
          refine ⟨_, rfl, p, xs, rfl, .inr sx, _, rfl, q, ys, rfl, .inr sy, rfl, false, by rw [lx, ly]; simp, iteF ?_⟩
          refine ⟨_, rfl, q, ys, rfl, .inr sy, _, rfl, by omega, by omega, for_range (n := (ys.length : Int).toNat) (fun _ σ H' => H' = H ∧ ∃ c, σ = [some (.ref p), some (.ref q), c]) ⟨rfl, _, rfl⟩ ?_ ?_⟩
          · rintro i σ H' hi ⟨rfl, c, rfl⟩
            have hi1 : i < xs.length := by omega
            have hi2 : i < ys.length := by omega
            obtain ⟨d1, e1, dx⟩ := dp_get ax (List.getElem?_eq_getElem hi1)
            obtain ⟨d2, e2, dy⟩ := dp_get ay (List.getElem?_eq_getElem hi2)
            rw [e1] at e2
            cases e2
            refine ⟨_, rfl, _, rfl, .inr (.inl ⟨p, xs, _, _, rfl, rfl, sx, by rw [Int.zero_add]; exact atI_nat (List.getElem?_eq_getElem hi1), ⟨_, rfl, _, rfl, .inr (.inl ⟨q, ys, _, _, rfl, rfl, sy, by rw [Int.zero_add]; exact atI_nat (List.getElem?_eq_getElem hi2), ?_⟩)⟩⟩)⟩
            exact ⟨_, _, d1, rfl, dx, dy, by have := depthAll_get e1; omega, dokAll_get hk.2 e1, true, rfl, iteF ⟨rfl, _, rfl⟩⟩
          · rintro σ H' ⟨rfl, c, rfl⟩
            exact k
end
end TG
namespace Gx
open PySem PySem.Spec PyProof.Rows L2 GenW
section
variable {J : It} {n : Nat} {G : Hp → Prop} {Y : Nat → Hp → V → Hp → Prop}
/-- all over a walk whose i-th element is f i -/
theorem all_by (w : Walk J n G Y) {te : TE} {Q : VK} {H2 : Hp} (f : Nat → Bool) (Pv : Nat → Hp → Prop) (h0 : Pv 0 H2) (hG : ∀ i H, i ≤ n → Pv i H → G H)
    (hs : ∀ i v H H', i < n → Pv i H → Y i H v H' → ∀ Z : VK, (∀ H3, Pv (i + 1) H3 → Z (.bl (f i)) H3) → te [some v] H' Z)
    (hT : ∀ H, Pv n H → (∀ i, i < n → f i = true) → Q (.bl true) H) (hF : ∀ i H, i < n → f i = false → Pv (i + 1) H → Q (.bl false) H) :
    ∃ W : WT, (∃ m, W m [] H2) ∧ ∀ m ys H, W m ys H → (J.stop ys.length H ∧ (fun (_ : List V) H => Q (.bl true) H) ys H) ∨
      (J.go ys.length H ∧ ∀ v H', J.yld ys.length H v H' → te [some v] H' (NyAll (fun b H => Q (.bl b) H) W m ys)) := by
  refine ⟨fun m ys H => m = n - ys.length ∧ ys.length ≤ n ∧ Pv ys.length H ∧ ∀ i, i < ys.length → f i = true, ⟨n, by simp, Nat.zero_le _, h0, fun i hi => absurd hi (Nat.not_lt_zero _)⟩, ?_⟩
  rintro m ys H ⟨rfl, hl, hp, ht⟩
  have q := hG _ H hl hp
  by_cases hlt : ys.length < n
  · refine .inr ⟨w.goes _ H hlt q, fun v H' y => hs _ v H H' hlt hp (w.yields _ H v H' hlt q y) _ fun H3 p3 => ⟨f ys.length, rfl, ?_⟩⟩
    cases hf : f ys.length with
    | true =>
      refine iteT ⟨n - (ys.length + 1), by omega, by rw [List.length_append, List.length_singleton], by rw [List.length_append, List.length_singleton]; exact hlt, by rw [List.length_append, List.length_singleton]; exact p3, fun i hi => ?_⟩
      rw [List.length_append, List.length_singleton] at hi
      by_cases e : i = ys.length
      · rw [e]; exact hf
      · exact ht i (by omega)
    | false => exact iteF (hF _ H3 hlt hf p3)
  · have e : ys.length = n := by omega
    exact .inl ⟨by rw [e]; exact w.stops H q, hT H (e ▸ hp) fun i hi => ht i (by omega)⟩
/-- max over a walk whose i-th element is g i -/
theorem max_by (w : Walk J n G Y) {te : TE} {Qm : Int → Hp → Prop} {H2 : Hp} (g : Nat → Int) (hn : 0 < n) (Pv : Nat → Hp → Prop) (h0 : Pv 0 H2) (hG : ∀ i H, i ≤ n → Pv i H → G H)
    (hs : ∀ i v H H', i < n → Pv i H → Y i H v H' → ∀ Z : VK, (∀ H3, Pv (i + 1) H3 → Z (.int (g i)) H3) → te [some v] H' Z)
    (hd : ∀ b H, Pv n H → (∃ i, i < n ∧ g i = b) → (∀ i, i < n → g i ≤ b) → Qm b H) :
    ∃ W : WT, (∃ m, W m [] H2) ∧ ∀ m ys H, W m ys H → (J.stop ys.length H ∧ NsMax Qm ys H) ∨
      (J.go ys.length H ∧ ∀ v H', J.yld ys.length H v H' → te [some v] H' (NyMax W m ys)) := by
  refine ⟨fun m ys H => m = n - ys.length ∧ ys.length ≤ n ∧ Pv ys.length H ∧ ys = ((List.range ys.length).map g).map V.int, ⟨n, by simp, Nat.zero_le _, h0, rfl⟩, ?_⟩
  rintro m ys H ⟨rfl, hl, hp, ht⟩
  have q := hG _ H hl hp
  by_cases hlt : ys.length < n
  · refine .inr ⟨w.goes _ H hlt q, fun v H' y => hs _ v H H' hlt hp (w.yields _ H v H' hlt q y) _ fun H3 p3 => ⟨g ys.length, rfl, n - (ys.length + 1), by omega, by rw [List.length_append, List.length_singleton], by rw [List.length_append, List.length_singleton]; exact hlt, by rw [List.length_append, List.length_singleton]; exact p3, ?_⟩⟩
    rw [List.length_append, List.length_singleton, List.range_succ, List.map_append, List.map_append, ← ht]
    rfl
  · have e : ys.length = n := by omega
    refine .inl ⟨by rw [e]; exact w.stops H q, (List.range ys.length).map g, ht, fun z => ?_, fun b hb hm => hd b H (e ▸ hp) ?_ fun i hi => hm _ (List.mem_map.mpr ⟨i, List.mem_range.mpr (by omega), rfl⟩)⟩
    · have := congrArg List.length z
      rw [List.length_map, List.length_range, List.length_nil] at this
      omega
    · obtain ⟨i, hi, e2⟩ := List.mem_map.mp hb
      exact ⟨i, by have := List.mem_range.mp hi; omega, e2⟩
end
def Tabs (cs : List (Addr × Addr)) (H : Hp) : Prop := ∀ p ∈ cs, GxR.TabG H p.2
theorem tab_ext {P : Addr} {H H' : Hp} (t : GxR.TabG H P) (x : GxR.Tabbed P H H') : LamX.ExtN H H' := fun b o e n => by
  by_cases hb : b = P
  · obtain ⟨ps, h1, _⟩ := t
    rw [hb, h1] at e
    cases e
    exact absurd rfl (n ps)
  · rw [x.2 b hb]; exact e
theorem tabs_tab {cs : List (Addr × Addr)} {P : Addr} {H H' : Hp} (t : Tabs cs H) (x : GxR.Tabbed P H H') : Tabs cs H' := fun p hp => by
  by_cases hb : p.2 = P
  · rw [hb]; exact x.1
  · obtain ⟨ps, h1, h2⟩ := t p hp
    exact ⟨ps, by rw [x.2 _ hb]; exact h1, h2⟩
/-- all but tables stays, the tables are tables -/
structure Ex (cs : List (Addr × Addr)) (H H' : Hp) : Prop where
  ext : LamX.ExtN H H'
  tab : Tabs cs H'
  old : ∀ b, H' b = none → H b = none
  oth : ∀ b o, H b = some o → (∀ p ∈ cs, p.2 ≠ b) → H' b = some o
theorem Ex.refl {cs : List (Addr × Addr)} {H : Hp} (t : Tabs cs H) : Ex cs H H := ⟨LamX.ExtN.refl H, t, fun _ h => h, fun _ _ e _ => e⟩
theorem Ex.trans {cs : List (Addr × Addr)} {H H1 H2 : Hp} (a : Ex cs H H1) (b : Ex cs H1 H2) : Ex cs H H2 := ⟨a.ext.trans b.ext, b.tab, fun c h => a.old c (b.old c h), fun c o e m => b.oth c o (a.oth c o e m) m⟩
theorem Ex.tabbed {cs : List (Addr × Addr)} {q : Addr × Addr} {H H' : Hp} (t : Tabs cs H) (m : q ∈ cs) (x : GxR.Tabbed q.2 H H') : Ex cs H H' := ⟨tab_ext (t q m) x, tabs_tab t x, fun b h => by
  by_cases hb : b = q.2
  · obtain ⟨ps, h1, _⟩ := x.1
    rw [hb, h1] at h
    cases h
  · rw [x.2 b hb] at h; exact h, fun b o e n => by
  rw [x.2 b (fun z => n q m z.symm)]
  exact e⟩
theorem upd_none {H : Hp} {a b : Addr} {o : HO} (h : upd H a o b = none) : H b = none ∧ b ≠ a := by
  by_cases hb : b = a
  · rw [hb, upd_same] at h; cases h
  · rw [upd_ne hb] at h; exact ⟨h, hb⟩
theorem Ex.laid {cs : List (Addr × Addr)} {H : Hp} {a : Addr} {o : HO} (t : Tabs cs H) (n : H a = none) : Ex cs H (upd H a o) :=
  ⟨fun b u e _ => by rw [upd_ne (ne_of_none e n)]; exact e, fun p hp => by
    obtain ⟨ps, h1, h2⟩ := t p hp
    exact ⟨ps, by rw [upd_ne (ne_of_none h1 n)]; exact h1, h2⟩, fun b h => (upd_none h).1, fun b u e _ => by
    rw [upd_ne (ne_of_none e n)]
    exact e⟩
/-- a new object, written again -/
theorem ex_new {cs : List (Addr × Addr)} {H H' : Hp} {D : Addr} {o : HO} (t : Tabs cs H) (e : Ex cs H H') (n : H D = none) : Ex cs H (upd H' D o) :=
  ⟨fun b u h m => by rw [upd_ne (ne_of_none h n)]; exact e.ext b u h m, fun p hp => by
    obtain ⟨ps, h1, _⟩ := t p hp
    obtain ⟨ps', h3, h4⟩ := e.tab p hp
    exact ⟨ps', by rw [upd_ne (ne_of_none h1 n)]; exact h3, h4⟩, fun b h => e.old b (upd_none h).1, fun b u h m => by
    rw [upd_ne (ne_of_none h n)]
    exact e.oth b u h m⟩
theorem Ex.lst {cs : List (Addr × Addr)} {H H' : Hp} {a : Addr} {xs : List V} (e : Ex cs H H') (h : H a = some (.lst xs)) : H' a = some (.lst xs) := e.ext _ _ h fun ps q => by cases q
theorem Ex.tup {cs : List (Addr × Addr)} {H H' : Hp} {a : Addr} {xs : List V} (e : Ex cs H H') (h : H a = some (.tup xs)) : H' a = some (.tup xs) := e.ext _ _ h fun ps q => by cases q
theorem Ex.sqL {cs : List (Addr × Addr)} {K : PySem.W.Frag} {H H' : Hp} {a : Addr} {xs : List V} (e : Ex cs H H') (h : SqL K H a xs) : SqL K H' a xs := by
  rcases h with (z | ⟨o, z⟩) | z
  · exact .inl (.inl (e.ext _ _ z fun ps q => by cases q))
  · exact .inl (.inr ⟨o, e.ext _ _ z fun ps q => by cases q⟩)
  · exact .inr z
theorem Ex.sqT {cs : List (Addr × Addr)} {K : PySem.W.Frag} {H H' : Hp} {a : Addr} {xs : List V} (e : Ex cs H H') (h : SqT K H a xs) : SqT K H' a xs := by
  rcases h with (z | ⟨o, z⟩) | z
  · exact .inl (.inl (e.ext _ _ z fun ps q => by cases q))
  · exact .inl (.inr ⟨o, e.ext _ _ z fun ps q => by cases q⟩)
  · exact .inr z
/-- a def whose code object is known -/
theorem fun_okT {P : Program} {w : World} {K : PySem.W.Frag} {mg : Str → Option Value} {base : Heap} {x qual : Str} {st : Stmt} {f c : Addr} {fd : FuncData} {N ps : List Str} {k : Nat} {sp : Sp} (F : Fun K x qual st f fd) (hc : fd.code = .ref c) (S : FnScope N ps (defScope st)) (len : ∀ vs H Q E, sp vs H Q E → vs.length = ps.length)
    (hbody : ∀ (A : Around) (outer : List Env) (s : Shared) (H : Hp) (vs : List V) (Q : VK) (E : XK), Room k (A.deeper (envOfC qual (defScope st) s.heap.objs.size f (.ref c))) → sp vs H Q E →
      ∃ t, PSs (cxOf CX0 P w K mg base N qual (defScope st) f (.ref c) A outer s H E).nox (defBody st) t ∧ t { nx := fun _ H' => Q .non H', rt := Q } (start N vs) H) : FnOk P w K mg base CX0 (k + 1) f fd ps sp := by
  obtain ⟨oc, od, kV, doc, pm, an, cdv, ct, osl, rfl, lk, hcd⟩ := F.ex
  have e : cdv = .ref c := hc
  subst e
  refine fn_of lk hcd S len fun A outer s H vs Q E hr hsp => ?_
  obtain ⟨t, h, q⟩ := hbody A outer s H vs Q E hr hsp
  exact ⟨t, h.nox, q⟩
end Gx
namespace TG
open PySem L2 Gx
def SgOk (c : Nat) : Prop := 32 ≤ c ∧ c ≤ 126 ∧ c ≠ 37
structure CellOk (z : Str) : Prop where
  len : z.length ≤ 10
  sg : ∀ c ∈ z.cps.toList, SgOk c
structure RowOk (r : List Str) : Prop where
  pos : 1 ≤ r.length
  len : r.length ≤ 6
  cells : ∀ z ∈ r, CellOk z
abbrev sV (r : List Str) : List V := r.map V.str
theorem line10 {n : Nat} (h : n ≤ 1000) : n ≤ sizeLine := Nat.le_trans h (by decide)
theorem dT {c : Prop} [Decidable c] (h : c) : V.bl (decide c) = V.bl true := by rw [decide_eq_true h]
theorem dF {c : Prop} [Decidable c] (h : ¬ c) : V.bl (decide c) = V.bl false := by rw [decide_eq_false h]
theorem qT {c : Prop} [Decidable c] {Q : VK} {H : Hp} (h : c) (k : Q (.bl true) H) : Q (.bl (decide c)) H := by rw [decide_eq_true h]; exact k
theorem qN {c : Prop} [Decidable c] {Q : VK} {H : Hp} (h : ¬ c) (k : Q (.bl true) H) : Q (.bl (!decide c)) H := by rw [decide_eq_false h]; exact k
structure Consts (mg : Str → Option Value) : Prop where
  blank : ∃ t, mg "BLANK" = some (.int 32 t)
  tilde : ∃ t, mg "TILDE" = some (.int 126 t)
  percent : ∃ t, mg "PERCENT" = some (.int 37 t)
  rows : ∃ t, mg "MOST_ROWS" = some (.int 30 t)
  cells : ∃ t, mg "MOST_CELLS" = some (.int 6 t)
  signs : ∃ t, mg "MOST_SIGNS" = some (.int 10 t)
  gap : ∃ t, mg "MOST_GAP" = some (.int 4 t)
  least : ∃ t, mg "MOST_LEAST" = some (.int 12 t)
section
variable {P : Program} {w : World} {K : PySem.W.Frag} {mg : Str → Option Value} {base : Heap}
def spWhole : Sp := fun vs H Q _ => ∃ (i lo hi : Int), vs = [.int i, .int lo, .int hi] ∧ lo ≤ i ∧ i ≤ hi ∧ Q (.bl true) H
theorem sc_whole : FnScope ["value", "low", "high"] ["value", "low", "high"] (defScope s_is_whole) := ⟨rfl, rfl, rfl, by decide +kernel, rfl, by decide +kernel, by decide +kernel⟩
theorem ok_whole {f : Addr} {fd : FuncData} (T : Txt mg) (F : Fun K "is_whole" "is_whole" s_is_whole f fd) : FnOk P w K mg base CX0 1 f fd ["value", "low", "high"] spWhole := by
  refine F.ok sc_whole (fun vs H Q E h => ?_) (fun cdv A outer s H vs Q E hr h => ?_)
  · obtain ⟨i, lo, hi, rfl, _⟩ := h
    rfl
  · obtain ⟨i, lo, hi, rfl, h1, h2, k⟩ := h
    refine ⟨_, pss_one (ps_ret (pe_and (pe_callB call_isi (by rfl) T.isin (by decide +kernel) (pa_cons (pv 0) (pa_cons (pe_bltn (v := .ty "int") (by rfl) T.int (by decide +kernel) rfl) pa_nil)))
      (pe_and (pe_not (pe_callB call_isi (by rfl) T.isin (by decide +kernel) (pa_cons (pv 0) (pa_cons (pe_bltn (v := .ty "bool") (by rfl) T.bool (by decide +kernel) rfl) pa_nil)))) (pe_one (pe_chain op_le op_le (pv 1) (pv 0) (pv 2)))))), ?_⟩
    exact ⟨_, rfl, _, _, _, _, true, rfl, .ty _, .base (.int i), kit_ty (by decide +kernel), true, rfl, iteT ⟨_, rfl, _, _, _, _, false, rfl, .ty _, .base (.int i), kit_ty (by decide +kernel), false, rfl, true, rfl, iteT
      ⟨_, rfl, _, rfl, lo, i, rfl, rfl, true, dT h1, iteT ⟨_, rfl, i, hi, rfl, rfl, qT h2 k⟩⟩⟩⟩
def spSg : Sp := fun vs H Q _ => ∃ c : Nat, vs = [.str ⟨#[c]⟩] ∧ SgOk c ∧ Q (.bl true) H
theorem sc_sg : FnScope ["sign"] ["sign"] (defScope s_is_sign) := ⟨rfl, rfl, rfl, by decide +kernel, rfl, by decide +kernel, by decide +kernel⟩
theorem ok_sg {f : Addr} {fd : FuncData} (T : Txt mg) (N : Consts mg) (F : Fun K "is_sign" "is_sign" s_is_sign f fd) : FnOk P w K mg base CX0 1 f fd ["sign"] spSg := by
  refine F.ok sc_sg (fun vs H Q E h => ?_) (fun cdv A outer s H vs Q E hr h => ?_)
  · obtain ⟨c, rfl, _⟩ := h
    rfl
  · obtain ⟨c, rfl, ⟨h1, h2, h3⟩, k⟩ := h
    obtain ⟨t1, e1⟩ := N.blank
    obtain ⟨t2, e2⟩ := N.tilde
    obtain ⟨t3, e3⟩ := N.percent
    refine ⟨_, pss_one (ps_ret (pe_and (pe_chain op_le op_le (pe_glob (v := .int 32) rfl e1 ⟨_, rfl⟩) (pe_callB call_ord (by rfl) T.ord (by decide +kernel) (pa_cons (pv 0) pa_nil)) (pe_glob (v := .int 126) rfl e2 ⟨_, rfl⟩))
      (pe_one (pe_cmpR op_ne (pe_callB call_ord (by rfl) T.ord (by decide +kernel) (pa_cons (pv 0) pa_nil)) (pe_glob (v := .int 37) rfl e3 ⟨_, rfl⟩) (nomark _))))), ?_⟩
    refine ⟨_, rfl, _, rfl, rfl, 32, (c : Int), rfl, rfl, true, dT (show (32 : Int) ≤ c by omega), iteT ⟨(c : Int), 126, rfl, rfl, ?_⟩⟩
    have e4 : V.bl (decide ((c : Int) ≤ 126)) = V.bl true := dT (by omega)
    refine ⟨true, e4, iteT ⟨_, rfl, _, rfl, rfl, rfl, qN (fun z => ?_) k⟩⟩
    injection z with z
    exact h3 (Int.ofNat.inj z)
def spText (cs : List (Addr × Addr)) : Sp := fun vs H Q _ => ∃ (z : Str) (m : Int), vs = [.str z, .int m] ∧ Tabs cs H ∧ (z.length : Int) ≤ m ∧ z.length ≤ 1000 ∧ (∀ c ∈ z.cps.toList, SgOk c) ∧ ∀ H', Ex cs H H' → Q (.bl true) H'
theorem sc_text : FnScope ["value", "most"] ["value", "most"] (defScope s_is_text) := ⟨rfl, rfl, rfl, by decide +kernel, rfl, by decide +kernel, by decide +kernel⟩
theorem ok_text {f c Pt g : Addr} {fd fdg : FuncData} {cs : List (Addr × Addr)} (T : Txt mg) (F : Fun K "is_text_of_signs" "is_text_of_signs" s_is_text f fd) (hc : fd.code = .ref c) (TB : GxR.TabB base mg c Pt) (hm : (c, Pt) ∈ cs)
    (G : FnOk P w K mg base CX0 1 g fdg ["sign"] spSg) (kp : PySem.W.keepIn K (.ref g) = true) (bd : Binds K fdg ["sign"] []) (mgg : mg "is_sign" = some (.ref g)) : FnOk P w K mg base CX0 5 f fd ["value", "most"] (spText cs) := by
  refine fun_okT F hc sc_text (fun vs H Q E h => ?_) (fun A outer s H vs Q E hr h => ?_)
  · obtain ⟨z, m, rfl, _⟩ := h
    rfl
  · obtain ⟨z, m, rfl, hT, h1, h2, h3, k⟩ := h
    refine ⟨_, pss_one (ps_ret (pe_and (pe_callB call_isi (by rfl) T.isin (by decide +kernel) (pa_cons (pv 0) (pa_cons (pe_bltn (v := .ty "str") (by rfl) T.str (by decide +kernel) rfl) pa_nil)))
      (pe_and (pe_cmpR op_le (pe_callB call_len_str (by rfl) T.len PySem.boot_len (pa_cons (pv 0) pa_nil)) (pv 1) (nomark _))
        (pe_one (pe_allG (k := 1) (P := Pt) hr (by rfl) T.all TB rfl ⟨rfl, rfl, by decide +kernel, by decide +kernel, rfl, rfl⟩ (pi_str (pv 0)) (fun A' code s4 H4 fp hr' => pe_call G hr' (by rfl) mgg kp bd .nil pass0 (pa_cons (pv 0) pa_nil)) (fun _ => rfl)))))), ?_⟩
    refine ⟨_, rfl, _, _, _, _, true, rfl, .ty _, .base (.str z), kit_ty (by decide +kernel), true, rfl, iteT ⟨_, rfl, z, rfl, line10 h2, _, rfl, _, _, rfl, rfl, true, dT h1, iteT ⟨_, rfl, z, rfl, hT _ hm, fun H2 hH2 => ?_⟩⟩⟩
    refine all_by (w := walk_str (z := z)) (fun _ => true) (fun _ H' => H' = H2) rfl (fun _ _ _ _ => trivial) (fun i v H3 H4 hi e y Z hZ => ?_) (fun H3 e _ => ?_) (fun i H3 _ e _ => by cases e)
    · obtain ⟨rfl, c, hc, rfl⟩ := y
      subst e
      refine ⟨_, rfl, c, rfl, h3 c ?_, hZ _ rfl⟩
      exact List.mem_of_getElem? (by rw [Array.getElem?_toList]; exact hc)
    · subst e
      exact k _ (Ex.tabbed hT hm hH2)
end
end TG
namespace TG
open PySem L2 Gx
/-- a page: its rows' tuples at as -/
structure PageAt (K : PySem.W.Frag) (H : Hp) (a : Addr) (as : List Addr) (rows : List (List Str)) : Prop where
  lst : SqL K H a (as.map V.ref)
  len : as.length = rows.length
  row : ∀ (i : Nat) (p : Addr) (r : List Str), as[i]? = some p → rows[i]? = some r → SqT K H p (sV r)
structure PgOk (rows : List (List Str)) : Prop where
  pos : 1 ≤ rows.length
  len : rows.length ≤ 30
  rows : ∀ r ∈ rows, RowOk r
theorem PageAt.ex {K : PySem.W.Frag} {cs : List (Addr × Addr)} {H H' : Hp} {a : Addr} {as : List Addr} {rows : List (List Str)} (p : PageAt K H a as rows) (e : Ex cs H H') : PageAt K H' a as rows :=
  ⟨e.sqL p.lst, p.len, fun i q r h1 h2 => e.sqT (p.row i q r h1 h2)⟩
theorem get_map {α β : Type} {f : α → β} {xs : List α} {i : Nat} {y : β} (h : (xs.map f)[i]? = some y) : ∃ x, xs[i]? = some x ∧ y = f x := by
  rw [List.getElem?_map] at h
  cases e : xs[i]? with
  | none => rw [e] at h; cases h
  | some x => rw [e] at h; cases h; exact ⟨x, rfl, rfl⟩
theorem getP {α : Type} {xs : List α} {i : Nat} (h : i < xs.length) : ∃ x, xs[i]? = some x := ⟨xs[i], List.getElem?_eq_getElem h⟩
section
variable {P : Program} {w : World} {K : PySem.W.Frag} {mg : Str → Option Value} {base : Heap} {cs : List (Addr × Addr)}
def spRow (K : PySem.W.Frag) (cs : List (Addr × Addr)) : Sp := fun vs H Q _ => ∃ (a : Addr) (r : List Str), vs = [.ref a] ∧ Tabs cs H ∧ SqT K H a (sV r) ∧ RowOk r ∧ ∀ H', Ex cs H H' → Q (.bl true) H'
theorem sc_row : FnScope ["value"] ["value"] (defScope s_is_row) := ⟨rfl, rfl, rfl, by decide +kernel, rfl, by decide +kernel, by decide +kernel⟩
theorem ok_isrow {f c Pt g : Addr} {fd fdg : FuncData} (T : Txt mg) (N : Consts mg) (F : Fun K "is_row" "is_row" s_is_row f fd) (hc : fd.code = .ref c) (TB : GxR.TabB base mg c Pt) (hm : (c, Pt) ∈ cs)
    (G : FnOk P w K mg base CX0 5 g fdg ["value", "most"] (spText cs)) (kp : PySem.W.keepIn K (.ref g) = true) (bd : Binds K fdg ["value", "most"] []) (mgg : mg "is_text_of_signs" = some (.ref g)) : FnOk P w K mg base CX0 9 f fd ["value"] (spRow K cs) := by
  refine fun_okT F hc sc_row (fun vs H Q E h => ?_) (fun A outer s H vs Q E hr h => ?_)
  · obtain ⟨a, r, rfl, _⟩ := h
    rfl
  · obtain ⟨a, r, rfl, hT, hS, ⟨p1, p2, p3⟩, k⟩ := h
    obtain ⟨t1, e1⟩ := N.cells
    obtain ⟨t2, e2⟩ := N.signs
    refine ⟨_, pss_cons (ps_if (PW.pt (pw_or (pt_not (pt_val (pe_callB call_isi (by rfl) T.isin (by decide +kernel) (pa_cons (pv 0) (pa_cons (pe_bltn (v := .ty "tuple") (by rfl) T.tuple (by decide +kernel) rfl) pa_nil)))))
        (pw_or1 (pt_not (pt_chain op_le op_le pe_int (pe_callB call_len_seq (by rfl) T.len PySem.boot_len (pa_cons (pv 0) pa_nil)) (pe_glob (v := .int 6) rfl e1 ⟨_, rfl⟩)))))) (pss_one (ps_ret pe_bl)) pss_nil)
      (pss_one (ps_ret (pe_allG (k := 5) (P := Pt) hr (by rfl) T.all TB rfl ⟨rfl, rfl, by decide +kernel, by decide +kernel, rfl, rfl⟩ (pi_tup (pv 0))
        (fun A' code s4 H4 fp hr' => pe_call G hr' (by rfl) mgg kp bd .nil pass0 (pa_cons (pv 0) (pa_cons (pe_glob (v := .int 10) rfl e2 ⟨_, rfl⟩) pa_nil))) (fun _ => rfl)))), ?_⟩
    have hl : (sV r).length = r.length := List.length_map ..
    refine ⟨_, rfl, _, _, _, _, true, rfl, .ty _, ty_tup hS, kit_ty (by decide +kernel), true, rfl, iteF ⟨_, rfl, a, _, rfl, .inr hS, 1, _, rfl, rfl, true, dT (by omega), iteT ⟨_, 6, rfl, rfl, true, dT (by omega), iteF ?_⟩⟩⟩
    refine ⟨_, rfl, a, rfl, ⟨_, hS⟩, hT _ hm, fun H2 hH2 => ?_⟩
    have x2 := Ex.tabbed hT hm hH2
    refine all_by (w := walk_tup (a := a) (xs := sV r)) (fun _ => true) (fun _ H' => Ex cs H H') x2 (fun i H' _ x => x.sqT hS) (fun i v H3 H4 hi x y Z hZ => ?_) (fun H3 x _ => k _ x) (fun i H3 _ e _ => by cases e)
    obtain ⟨rfl, hv⟩ := y
    obtain ⟨z, hz, rfl⟩ := get_map hv
    obtain ⟨c1, c2⟩ := p3 z (List.mem_of_getElem? hz)
    exact ⟨_, rfl, z, 10, rfl, x.tab, by omega, by omega, c2, fun H5 x5 => hZ _ (x.trans x5)⟩
def spCheck (K : PySem.W.Frag) (cs : List (Addr × Addr)) : Sp := fun vs H Q _ => ∃ (a : Addr) (as : List Addr) (rows : List (List Str)), vs = [.ref a] ∧ Tabs cs H ∧ PageAt K H a as rows ∧ PgOk rows ∧ ∀ H', Ex cs H H' → Q .non H'
theorem sc_misfit : FnScope ["rows", "number", "row"] ["rows"] (defScope s_misfit) := ⟨rfl, rfl, rfl, by decide +kernel, rfl, by decide +kernel, by decide +kernel⟩
theorem ok_misfit {f g : Addr} {fd fdg : FuncData} (T : Txt mg) (N : Consts mg) (F : Fun K "first_misfit" "first_misfit" s_misfit f fd)
    (G : FnOk P w K mg base CX0 9 g fdg ["value"] (spRow K cs)) (kp : PySem.W.keepIn K (.ref g) = true) (bd : Binds K fdg ["value"] []) (mgg : mg "is_row" = some (.ref g)) : FnOk P w K mg base CX0 10 f fd ["rows"] (spCheck K cs) := by
  refine F.ok sc_misfit (fun vs H Q E h => ?_) (fun cdv A outer s H vs Q E hr h => ?_)
  · obtain ⟨a, as, rows, rfl, _⟩ := h
    rfl
  · obtain ⟨a, as, rows, rfl, hT, hP, hO, k⟩ := h
    have nd := sc_misfit.nd
    obtain ⟨t1, e1⟩ := N.rows
    refine ⟨_, pss_cons (ps_for PassesOwn.never rfl (pi_enum (by rfl) T.enum (pa_cons (pv 0) pa_nil)) (pg_tup rfl (pgs_cons (pg_name (i := 1) nd rfl (.inl rfl)) (pgs_cons (pg_name (i := 2) nd rfl (.inl rfl)) pgs_nil)))
        (pss_one (ps_if (PW.pt (pw_or (pt_cmpR op_eq (pv 1) (pe_glob (v := .int 30) rfl e1 ⟨_, rfl⟩) (nomark _)) (pw_or1 (pt_not (pt_val (pe_call G hr (by rfl) mgg kp bd .nil pass0 (pa_cons (pv 2) pa_nil))))))) (pss_one ps_never) pss_nil)))
      (pss_one (ps_ret pe_non)), ?_⟩
    have hl : (as.map V.ref).length = rows.length := by rw [List.length_map]; exact hP.len
    have := hO.pos
    have := hO.len
    refine ⟨_, rfl, a, _, rfl, hP.lst, for_it (walk_enum (xs := as.map V.ref)) (fun _ σ H' => Ex cs H H' ∧ σ[0]? = some (some (.ref a)) ∧ σ.length = 3) ⟨Ex.refl hT, rfl, rfl⟩ (fun i σ H' _ x => x.1.sqL hP.lst) ?_ ?_⟩
    · rintro i x σ H3 H4 hi ⟨x3, s0, sl⟩ ⟨Tp, v, u, rfl, hn, rfl, hv, hu⟩
      cases hv
      obtain ⟨p, hp, rfl⟩ := get_map hu
      have hi2 : i < rows.length := by omega
      obtain ⟨r, hr2⟩ := getP hi2
      have xl := Ex.laid (o := .tup [.int (i : Nat), .ref p]) x3.tab hn
      refine ⟨Tp, _, rfl, .inl (.inl upd_same), rfl, _, _, rfl, _, _, rfl, rfl, ?_⟩
      have g1 : ((σ.set 1 (some (V.int (i : Nat)))).set 2 (some (V.ref p)))[1]? = some (some (V.int (i : Nat))) := by
        rw [List.getElem?_set_ne (by decide)]
        exact List.getElem?_set_self (by omega)
      have g2 : ((σ.set 1 (some (V.int (i : Nat)))).set 2 (some (V.ref p)))[2]? = some (some (V.ref p)) := List.getElem?_set_self (by rw [List.length_set]; omega)
      refine ⟨_, g1, rfl, false, dF (fun z => by injection z with z; omega), iteF ⟨_, g2, p, r, rfl, xl.tab, (x3.trans xl).sqT (hP.row i p r hp hr2), hO.rows r (List.mem_of_getElem? hr2), fun H5 x5 => ⟨true, rfl, iteF ⟨(x3.trans xl).trans x5, ?_, ?_⟩⟩⟩⟩
      · rw [List.getElem?_set_ne (by decide), List.getElem?_set_ne (by decide)]; exact s0
      · rw [List.length_set, List.length_set]; exact sl
    · rintro σ H' ⟨x, _⟩
      exact k H' x
theorem sc_check : FnScope ["page", "number"] ["page"] (defScope s_check_page) := ⟨rfl, rfl, rfl, by decide +kernel, rfl, by decide +kernel, by decide +kernel⟩
theorem ok_check {f g : Addr} {fd fdg : FuncData} (T : Txt mg) (F : Fun K "check_page" "check_page" s_check_page f fd)
    (G : FnOk P w K mg base CX0 10 g fdg ["rows"] (spCheck K cs)) (kp : PySem.W.keepIn K (.ref g) = true) (bd : Binds K fdg ["rows"] []) (mgg : mg "first_misfit" = some (.ref g)) : FnOk P w K mg base CX0 11 f fd ["page"] (spCheck K cs) := by
  refine F.ok sc_check (fun vs H Q E h => ?_) (fun cdv A outer s H vs Q E hr h => ?_)
  · obtain ⟨a, as, rows, rfl, _⟩ := h
    rfl
  · obtain ⟨a, as, rows, rfl, hT, hP, hO, k⟩ := h
    have nd := sc_check.nd
    refine ⟨_, pss_cons (ps_if (PW.pt (pw_or (pt_not (pt_val (pe_callB call_isi (by rfl) T.isin (by decide +kernel) (pa_cons (pv 0) (pa_cons (pe_bltn (v := .ty "list") (by rfl) T.list (by decide +kernel) rfl) pa_nil)))))
        (pw_or1 (pt_cmpR op_eq (pe_callB call_len_seq (by rfl) T.len PySem.boot_len (pa_cons (pv 0) pa_nil)) pe_int (nomark _))))) (pss_one ps_never) pss_nil)
      (pss_cons (ps_set (i := 1) nd rfl (.inl rfl) (pe_call G hr (by rfl) mgg kp bd .nil pass0 (pa_cons (pv 0) pa_nil)))
      (pss_one (ps_if (pt_cmpR op_notN (pv 1) pe_non (nomark _)) (pss_one ps_never) pss_nil))), ?_⟩
    have hl : (as.map V.ref).length = rows.length := by rw [List.length_map]; exact hP.len
    have := hO.pos
    have := hO.len
    refine ⟨_, rfl, _, _, _, _, true, rfl, .ty _, ty_list hP.lst, kit_ty (by decide +kernel), true, rfl, iteF ⟨_, rfl, a, _, rfl, .inl hP.lst, rfl, false, dF (fun z => by injection z with z; omega), iteF ?_⟩⟩
    exact ⟨_, rfl, a, as, rows, rfl, hT, hP, hO, fun H' x => ⟨_, rfl, rfl, false, rfl, iteF (k H' x)⟩⟩
structure StyleAt (K : PySem.W.Frag) (H : Hp) (a : Addr) (gap least : Int) : Prop where
  tup : SqT K H a [.int gap, .int least]
  g0 : 0 ≤ gap
  g1 : gap ≤ 4
  l0 : 0 ≤ least
  l1 : least ≤ 12
def spStyle (K : PySem.W.Frag) : Sp := fun vs H Q _ => ∃ (a : Addr) (gap least : Int), vs = [.ref a] ∧ StyleAt K H a gap least ∧ Q .non H
theorem sc_style : FnScope ["style", "gap", "least"] ["style"] (defScope s_check_style) := ⟨rfl, rfl, rfl, by decide +kernel, rfl, by decide +kernel, by decide +kernel⟩
theorem ok_cstyle {f g : Addr} {fd fdg : FuncData} (T : Txt mg) (N : Consts mg) (F : Fun K "check_style" "check_style" s_check_style f fd)
    (G : FnOk P w K mg base CX0 1 g fdg ["value", "low", "high"] spWhole) (kp : PySem.W.keepIn K (.ref g) = true) (bd : Binds K fdg ["value", "low", "high"] []) (mgg : mg "is_whole" = some (.ref g)) : FnOk P w K mg base CX0 2 f fd ["style"] (spStyle K) := by
  refine F.ok sc_style (fun vs H Q E h => ?_) (fun cdv A outer s H vs Q E hr h => ?_)
  · obtain ⟨a, gap, least, rfl, _⟩ := h
    rfl
  · obtain ⟨a, gap, least, rfl, ⟨hS, g0, g1, l0, l1⟩, k⟩ := h
    have nd := sc_style.nd
    obtain ⟨t1, e1⟩ := N.gap
    obtain ⟨t2, e2⟩ := N.least
    refine ⟨_, pss_cons (ps_if (PW.pt (pw_or (pt_not (pt_val (pe_callB call_isi (by rfl) T.isin (by decide +kernel) (pa_cons (pv 0) (pa_cons (pe_bltn (v := .ty "tuple") (by rfl) T.tuple (by decide +kernel) rfl) pa_nil)))))
        (pw_or1 (pt_cmpR op_ne (pe_callB call_len_seq (by rfl) T.len PySem.boot_len (pa_cons (pv 0) pa_nil)) pe_int (nomark _))))) (pss_one ps_never) pss_nil)
      (pss_cons (ps_asg (pv 0) (pg_tup rfl (pgs_cons (pg_name (i := 1) nd rfl (.inl rfl)) (pgs_cons (pg_name (i := 2) nd rfl (.inl rfl)) pgs_nil))))
      (pss_one (ps_if (PW.pt (pw_or (pt_not (pt_val (pe_call G hr (by rfl) mgg kp bd .nil pass0 (pa_cons (pv 1) (pa_cons pe_int (pa_cons (pe_glob (v := .int 4) rfl e1 ⟨_, rfl⟩) pa_nil))))))
        (pw_or1 (pt_not (pt_val (pe_call G hr (by rfl) mgg kp bd .nil pass0 (pa_cons (pv 2) (pa_cons pe_int (pa_cons (pe_glob (v := .int 12) rfl e2 ⟨_, rfl⟩) pa_nil))))))))) (pss_one ps_never) pss_nil))), ?_⟩
    refine ⟨_, rfl, _, _, _, _, true, rfl, .ty _, ty_tup hS, kit_ty (by decide +kernel), true, rfl, iteF ⟨_, rfl, a, _, rfl, .inr hS, rfl, false, rfl, iteF ?_⟩⟩
    exact ⟨_, rfl, a, _, rfl, hS, rfl, _, _, rfl, _, _, rfl, rfl, _, rfl, gap, 0, 4, rfl, g0, g1, true, rfl, iteF ⟨_, rfl, least, 0, 12, rfl, l0, l1, true, rfl, iteF k⟩⟩
end
end TG
namespace TG
open PySem L2 Gx
abbrev cl (z : Str) : List Nat := z.cps.toList
def restL (l : List Nat) : List Nat := if l.head? = some 45 then l.tail else l
def figB (z : Str) : Bool := decide (restL (cl z) ≠ []) && (restL (cl z)).all fun c => decide (48 ≤ c ∧ c ≤ 57)
theorem digit_lt : ∀ c < 127, Unicode.isDigit c = decide (48 ≤ c ∧ c ≤ 57) := by decide +kernel
theorem isdigit_eq {z : Str} (h : ∀ c ∈ cl z, c < 127) : Txt.isdigit z = (decide (cl z ≠ []) && (cl z).all fun c => decide (48 ≤ c ∧ c ≤ 57)) := by
  obtain ⟨⟨l⟩⟩ := z
  unfold Txt.isdigit
  simp only [Str.length, cl] at h ⊢
  congr 1
  · cases l <;> simp
  · rw [Bool.eq_iff_iff]
    simp only [List.all_eq_true, List.all_toArray]
    constructor
    · intro q c hc
      rw [← digit_lt c (h c hc)]; exact q c hc
    · intro q c hc
      rw [digit_lt c (h c hc)]; exact q c hc
theorem cut1 (z : Str) : cl (cutS z (some 1) none) = (cl z).tail := by
  obtain ⟨⟨l⟩⟩ := z
  unfold cutS
  simp only [cl, Str.length]
  rw [HT.sIx_none, show (some (1 : Int)) = some ((1 : Nat) : Int) from rfl, HT.sIx_nat]
  cases l with
  | nil => simp
  | cons a l => simp
theorem starts_dash (z : Str) : Txt.startswith z "-" = decide ((cl z).head? = some 45) := by
  obtain ⟨⟨l⟩⟩ := z
  have e : ("-" : Str) = ⟨#[45]⟩ := by decide +kernel
  rw [e]
  unfold Txt.startswith Builtin.Str.subAt
  cases l with
  | nil => simp [Str.length, cl]
  | cons a l =>
    simp only [Str.length, cl, List.head?_cons]
    by_cases h : a = 45
    · subst h
      simp
    · simp [h]
theorem str_ext {a b : Str} (h : cl a = cl b) : a = b := by
  obtain ⟨⟨a⟩⟩ := a
  obtain ⟨⟨b⟩⟩ := b
  have h : a = b := h
  rw [h]
section
variable {P : Program} {w : World} {K : PySem.W.Frag} {mg : Str → Option Value} {base : Heap} {cs : List (Addr × Addr)}
def spFig : Sp := fun vs H Q _ => ∃ z : Str, vs = [.str z] ∧ CellOk z ∧ Q (.bl (figB z)) H
theorem sc_isfig : FnScope ["cell"] ["cell"] (defScope s_is_figures) := ⟨rfl, rfl, rfl, by decide +kernel, rfl, by decide +kernel, by decide +kernel⟩
theorem ok_isfig {f : Addr} {fd : FuncData} (F : Fun K "is_figures" "is_figures" s_is_figures f fd) : FnOk P w K mg base CX0 1 f fd ["cell"] spFig := by
  refine F.ok sc_isfig (fun vs H Q E h => ?_) (fun cdv A outer s H vs Q E hr h => ?_)
  · obtain ⟨z, rfl, _⟩ := h
    rfl
  · obtain ⟨z, rfl, ⟨h1, h2⟩, k⟩ := h
    refine ⟨_, pss_cons (ps_if (pt_val (pe_m1 PySem.F.slot_str_startswith PySem.F.type_str_startswith mt_startswith (pv 0) pe_str)) (pss_one (ps_ret (pe_m0 PySem.F.slot_str_isdigit PySem.F.type_str_isdigit mt_isdigit (pe_slice sl_str (pv 0) (po_some pe_int) po_none)))) pss_nil)
      (pss_one (ps_ret (pe_m0 PySem.F.slot_str_isdigit PySem.F.type_str_isdigit mt_isdigit (pv 0)))), ?_⟩
    have lt : ∀ c ∈ cl z, c < 127 := fun c hc => by have := h2 c hc; unfold SgOk at this; omega
    refine ⟨_, rfl, ⟨_, rfl⟩, z, _, rfl, rfl, _, rfl, ?_⟩
    rw [starts_dash]
    by_cases hd : (cl z).head? = some 45
    · rw [decide_eq_true hd]
      refine iteT ⟨_, rfl, 1, rfl, z, rfl, line10 (by omega), ⟨_, rfl⟩, _, rfl, rfl, trivial, ?_⟩
      have e : Txt.isdigit (cutS z (some 1) none) = figB z := by
        rw [isdigit_eq (fun c hc => lt c (by rw [cut1] at hc; exact List.mem_of_mem_tail hc)), cut1]
        unfold figB restL
        rw [if_pos hd]
      rw [e]
      exact k
    · rw [decide_eq_false hd]
      refine iteF ⟨_, rfl, ⟨_, rfl⟩, _, rfl, rfl, trivial, ?_⟩
      have e : Txt.isdigit z = figB z := by
        rw [isdigit_eq lt]
        unfold figB restL
        rw [if_neg hd]
      rw [e]
      exact k
end
end TG
namespace TG
open PySem L2 Gx
def fillB (zs : List Str) : List Str := zs.filter fun z => decide (cl z ≠ [])
def rightB (zs : List Str) : Bool := decide (fillB zs ≠ []) && (fillB zs).all figB
theorem ne_empty (z : Str) : (!decide (V.str z = V.str "")) = decide (cl z ≠ []) := by
  have e : ("" : Str) = ⟨#[]⟩ := by decide +kernel
  by_cases h : cl z = []
  · have q : z = "" := str_ext (by rw [h, e])
    rw [decide_eq_true (show V.str z = V.str "" by rw [q]), decide_eq_false (fun n => n h)]
    rfl
  · rw [decide_eq_false (show ¬ V.str z = V.str "" from fun q => h (by injection q with q; rw [q, e])), decide_eq_true h]
    rfl
theorem filter_take {α : Type} {p : α → Bool} {xs : List α} {i : Nat} {x : α} (h : xs[i]? = some x) : (xs.take (i + 1)).filter p = (xs.take i).filter p ++ (if p x = true then [x] else []) := by
  rw [List.take_add_one, h, List.filter_append]
  congr 1
  by_cases hp : p x = true
  · rw [if_pos hp]
    simp [hp]
  · rw [if_neg hp]
    simp [hp]
section
variable {P : Program} {w : World} {K : PySem.W.Frag} {mg : Str → Option Value} {base : Heap} {cs : List (Addr × Addr)}
def spRight (K : PySem.W.Frag) (cs : List (Addr × Addr)) : Sp := fun vs H Q _ => ∃ (a : Addr) (zs : List Str), vs = [.ref a] ∧ Tabs cs H ∧ SqL K H a (sV zs) ∧ zs.length ≤ 1000 ∧ (∀ z ∈ zs, CellOk z) ∧ ∀ H', Ex cs H H' → Q (.bl (rightB zs)) H'
theorem sc_right : FnScope ["cells", "filled", "cell"] ["cells"] (defScope s_stands_right) := ⟨rfl, rfl, rfl, by decide +kernel, rfl, by decide +kernel, by decide +kernel⟩
theorem ok_right {f c Pt g : Addr} {fd fdg : FuncData} (T : Txt mg) (F : Fun K "stands_right" "stands_right" s_stands_right f fd) (hc : fd.code = .ref c) (TB : GxR.TabB base mg c Pt) (hm : (c, Pt) ∈ cs)
    (G : FnOk P w K mg base CX0 1 g fdg ["cell"] spFig) (kp : PySem.W.keepIn K (.ref g) = true) (bd : Binds K fdg ["cell"] []) (mgg : mg "is_figures" = some (.ref g)) : FnOk P w K mg base CX0 5 f fd ["cells"] (spRight K cs) := by
  refine fun_okT F hc sc_right (fun vs H Q E h => ?_) (fun A outer s H vs Q E hr h => ?_)
  · obtain ⟨a, zs, rfl, _⟩ := h
    rfl
  · obtain ⟨a, zs, rfl, hT, hS, hl, hz, k⟩ := h
    have nd := sc_right.nd
    refine ⟨_, pss_cons (ps_setLc (i := 1) (own := [("cell", 2)]) (g := gName 2) rfl nd rfl rfl (sw_true rfl rfl rfl (by decide +kernel)) (pi_list (pv 0)) (blkOk_by (own := [("cell", 2)]) (N := ["cells", "filled", "cell"]) (sc := defScope s_stands_right) (by decide +kernel))
        (fun _ _ _ _ _ => pg_name (i := 2) nd rfl (Or.inl rfl)) (fun _ _ _ _ _ => pts_one (pt_cmpR op_ne (pv 2) pe_str (nomark _))) (fun _ _ _ _ _ => pv 2))
      (pss_one (ps_ret (pe_and (pe_cmpR op_gt (pe_callB call_len_seq (by rfl) T.len PySem.boot_len (pa_cons (pv 1) pa_nil)) pe_int (nomark _))
        (pe_one (pe_allG (k := 1) (P := Pt) hr (by rfl) T.all TB rfl ⟨rfl, rfl, by decide +kernel, by decide +kernel, rfl, rfl⟩ (pi_list (pv 1)) (fun A' code s4 H4 fp hr' => pe_call G hr' (by rfl) mgg kp bd .nil pass0 (pa_cons (pv 0) pa_nil)) (fun _ => rfl)))))), ?_⟩
    have ls : (sV zs).length = zs.length := List.length_map ..
    refine ⟨_, rfl, a, rfl, ⟨_, hS⟩, fun D nD => lc_list (xs := sV zs) (fun i H' => Ex cs H H' ∧ H' D = some (.lst (sV (fillB (zs.take i))))) ⟨Ex.laid hT nD, upd_same⟩ (fun i H' _ p => p.1.sqL hS) ?_ ?_⟩
    · rintro i x H1 hx ⟨x1, hD⟩
      obtain ⟨z, hz1, rfl⟩ := get_map hx
      have hi : i < zs.length := (List.getElem?_eq_some_iff.mp hz1).1
      have hf := filter_take (p := fun z => decide (cl z ≠ [])) hz1
      refine ⟨rfl, _, rfl, rfl, _, rfl, ?_⟩
      rw [ne_empty]
      by_cases hc : cl z ≠ []
      · rw [decide_eq_true hc]
        rw [if_pos (decide_eq_true hc)] at hf
        refine iteT ⟨_, rfl, _, hD, ?_, ex_new hT x1 nD, ?_⟩
        · have q : (fillB (zs.take i)).length ≤ (zs.take i).length := List.length_filter_le ..
          have q2 : (sV (fillB (zs.take i))).length = (fillB (zs.take i)).length := List.length_map ..
          rw [List.length_take] at q
          have : (1000 : Nat) < sizeLine := by decide
          omega
        · rw [upd_same]
          unfold fillB
          rw [hf]
          simp [sV]
      · rw [decide_eq_false hc]
        rw [if_neg (by rw [decide_eq_false hc]; exact Bool.false_ne_true), List.append_nil] at hf
        refine iteF ⟨x1, ?_⟩
        unfold fillB
        rw [hf]
        exact hD
    · rintro H1 ⟨x1, hD⟩
      rw [ls, List.take_of_length_le (Nat.le_refl _)] at hD
      have hf : ∀ z ∈ fillB zs, CellOk z := fun z h => hz z (List.mem_filter.mp h).1
      refine ⟨_, rfl, D, _, rfl, .inl (SqL.of hD), _, 0, rfl, rfl, _, rfl, ?_⟩
      have lf : (sV (fillB zs)).length = (fillB zs).length := List.length_map ..
      by_cases hn : fillB zs = []
      · have e0 : decide (((sV (fillB zs)).length : Int) > 0) = false := decide_eq_false (by rw [hn]; simp)
        rw [e0]
        refine iteF ?_
        have e : rightB zs = false := by
          unfold rightB
          rw [decide_eq_false (fun q => q hn)]
          rfl
        rw [← e]
        exact k _ x1
      · have hp : 0 < (fillB zs).length := List.length_pos_iff.mpr hn
        have e0 : decide (((sV (fillB zs)).length : Int) > 0) = true := decide_eq_true (by omega)
        rw [e0]
        refine iteT ⟨_, rfl, D, rfl, ⟨_, SqL.of hD⟩, x1.tab _ hm, fun H2 hH2 => ?_⟩
        have x2 := Ex.tabbed x1.tab hm hH2
        have hR : rightB zs = (fillB zs).all figB := by
          unfold rightB
          rw [decide_eq_true hn, Bool.true_and]
        refine all_by (w := walk_list (a := D) (xs := sV (fillB zs))) (fun i => match (fillB zs)[i]? with | some z => figB z | none => true) (fun _ H' => Ex cs H H' ∧ H' D = some (.lst (sV (fillB zs)))) ⟨x1.trans x2, x2.ext _ _ hD fun ps q => by cases q⟩ (fun i H' _ x => SqL.of x.2) (fun i v H3 H4 hi x y Z hZ => ?_) (fun H3 x hall => ?_) (fun i H3 hi hff x => ?_)
        · obtain ⟨rfl, hv⟩ := y
          obtain ⟨z, hz2, rfl⟩ := get_map hv
          refine ⟨_, rfl, z, rfl, hf z (List.mem_of_getElem? hz2), ?_⟩
          have := hZ _ x
          rw [hz2] at this
          exact this
        · have e : rightB zs = true := by
            rw [hR, List.all_eq_true]
            intro z hzm
            obtain ⟨i, hi, e⟩ := List.getElem_of_mem hzm
            have q := hall i (by omega)
            rw [List.getElem?_eq_getElem hi, e] at q
            exact q
          rw [← e]
          exact k _ x.1
        · have e : rightB zs = false := by
            rw [hR, Bool.eq_false_iff]
            intro q
            rw [List.all_eq_true] at q
            have hi2 : i < (fillB zs).length := by omega
            rw [List.getElem?_eq_getElem hi2] at hff
            have := q _ (List.getElem_mem hi2)
            rw [show figB (fillB zs)[i] = false from hff] at this
            cases this
          rw [← e]
          exact k _ x.1
end
end TG
namespace TG
open PySem L2 Gx
def clB (rows : List (List Str)) (c i : Nat) : Bool := match rows[i]? with
  | some r => decide (c + 1 < r.length)
  | none => false
def hiB (rows : List (List Str)) (c i : Nat) : Nat := i + ((rows.drop i).takeWhile fun r => decide (c + 1 < r.length)).length
def stB (rows : List (List Str)) (c i : Nat) : Bool := clB rows c i && (decide (i = 0) || !clB rows c (i - 1))
def runsB (rows : List (List Str)) (c : Nat) : List (Nat × Nat) := ((List.range rows.length).filter (stB rows c)).map fun i => (i, hiB rows c i)
theorem hi_yes {rows : List (List Str)} {c i : Nat} (h : clB rows c i = true) : hiB rows c i = hiB rows c (i + 1) := by
  unfold clB at h
  cases e : rows[i]? with
  | none => rw [e] at h; cases h
  | some r =>
    rw [e] at h
    obtain ⟨hi, e2⟩ := List.getElem?_eq_some_iff.mp e
    have h' : decide (c + 1 < r.length) = true := h
    unfold hiB
    rw [List.drop_eq_getElem_cons hi, e2, List.takeWhile_cons, h', if_pos rfl, List.length_cons]
    omega
theorem hi_no {rows : List (List Str)} {c i : Nat} (h : clB rows c i = false) : hiB rows c i = i := by
  unfold clB at h
  unfold hiB
  cases e : rows[i]? with
  | none =>
    have hl : rows.length ≤ i := List.getElem?_eq_none_iff.mp e
    rw [List.drop_of_length_le hl]
    rfl
  | some r =>
    rw [e] at h
    obtain ⟨hi, e2⟩ := List.getElem?_eq_some_iff.mp e
    have h' : decide (c + 1 < r.length) = false := h
    rw [List.drop_eq_getElem_cons hi, e2, List.takeWhile_cons, h', if_neg Bool.false_ne_true]
    rfl
theorem hi_ge (rows : List (List Str)) (c i : Nat) : i ≤ hiB rows c i := Nat.le_add_right ..
theorem cl_lt {rows : List (List Str)} {c i : Nat} (h : clB rows c i = true) : i < rows.length := by
  unfold clB at h
  cases e : rows[i]? with
  | none => rw [e] at h; cases h
  | some r => exact (List.getElem?_eq_some_iff.mp e).1
theorem hi_le {rows : List (List Str)} {c i : Nat} (h : i ≤ rows.length) : hiB rows c i ≤ rows.length := by
  unfold hiB
  have := (List.takeWhile_prefix (l := rows.drop i) (fun r : List Str => decide (c + 1 < r.length))).length_le
  rw [List.length_drop] at this
  omega
theorem hi_in {rows : List (List Str)} {c : Nat} : ∀ (d i j : Nat), j = i + d → j < hiB rows c i → clB rows c j = true := by
  intro d
  induction d with
  | zero =>
    intro i j e h
    have e' : j = i := by omega
    subst e'
    cases hc : clB rows c j with
    | true => rfl
    | false =>
      rw [hi_no hc] at h
      omega
  | succ d ih =>
    intro i j e h
    cases hc : clB rows c i with
    | true =>
      rw [hi_yes hc] at h
      exact ih (i + 1) j (by omega) h
    | false =>
      rw [hi_no hc] at h
      omega
/-- one turn of the outer loop -/
theorem starts_turn {rows : List (List Str)} {c k : Nat} (hk : k = 0 ∨ clB rows c (k - 1) = false) :
    (List.range (hiB rows c k + 1)).filter (stB rows c) = (List.range k).filter (stB rows c) ++ (if clB rows c k = true then [k] else []) := by
  have key : ∀ d, k + d ≤ hiB rows c k → (List.range (k + d + 1)).filter (stB rows c) = (List.range k).filter (stB rows c) ++ (if clB rows c k = true then [k] else []) := by
    intro d
    induction d with
    | zero =>
      intro _
      rw [Nat.add_zero, List.range_succ, List.filter_append]
      congr 1
      have e : stB rows c k = clB rows c k := by
        unfold stB
        rcases hk with h | h
        · rw [decide_eq_true h]; simp
        · rw [h]; simp
      by_cases hc : clB rows c k = true
      · rw [if_pos hc]
        simp [e, hc]
      · rw [if_neg hc]
        simp [e, hc]
    | succ d ih =>
      intro hle
      rw [← Nat.add_assoc, List.range_succ, List.filter_append, ih (by omega)]
      have h1 : clB rows c (k + d) = true := hi_in d k (k + d) rfl (by omega)
      have e : stB rows c (k + d + 1) = false := by
        unfold stB
        rw [Nat.add_sub_cancel, h1, decide_eq_false (by omega)]
        simp
      simp [e]
  have h0 := hi_ge rows c k
  have := key (hiB rows c k - k) (by omega)
  rw [show k + (hiB rows c k - k) + 1 = hiB rows c k + 1 by omega] at this
  exact this
theorem starts_end {rows : List (List Str)} {c k : Nat} (h1 : rows.length ≤ k) : (List.range k).filter (stB rows c) = (List.range rows.length).filter (stB rows c) := by
  obtain ⟨d, rfl⟩ : ∃ d, k = rows.length + d := ⟨k - rows.length, by omega⟩
  clear h1
  induction d with
  | zero => rfl
  | succ d ih =>
    rw [← Nat.add_assoc, List.range_succ, List.filter_append, ih]
    have e : stB rows c (rows.length + d) = false := by
      unfold stB
      cases hc : clB rows c (rows.length + d) with
      | true => have := cl_lt hc; omega
      | false => rfl
    simp [e]
/-- pairs of numbers at ts -/
structure PairsAt (H : Hp) (ts : List Addr) (ps : List (Nat × Nat)) : Prop where
  len : ts.length = ps.length
  at_ : ∀ (i : Nat) (t : Addr) (p : Nat × Nat), ts[i]? = some t → ps[i]? = some p → H t = some (.tup [.int (p.1 : Nat), .int (p.2 : Nat)])
theorem PairsAt.snoc {H : Hp} {ts : List Addr} {ps : List (Nat × Nat)} {t : Addr} {p : Nat × Nat} (h : PairsAt H ts ps) (e : H t = some (.tup [.int (p.1 : Nat), .int (p.2 : Nat)])) : PairsAt H (ts ++ [t]) (ps ++ [p]) := by
  refine ⟨by rw [List.length_append, List.length_append, h.len]; rfl, fun i u q h1 h2 => ?_⟩
  by_cases hi : i < ts.length
  · rw [List.getElem?_append_left hi] at h1
    rw [List.getElem?_append_left (by rw [← h.len]; exact hi)] at h2
    exact h.at_ i u q h1 h2
  · have hl := (List.getElem?_eq_some_iff.mp h1).1
    rw [List.length_append, List.length_singleton] at hl
    have e1 : i = ts.length := by omega
    subst e1
    rw [List.getElem?_append_right (Nat.le_refl _), Nat.sub_self] at h1
    rw [h.len, List.getElem?_append_right (Nat.le_refl _), Nat.sub_self] at h2
    cases h1
    cases h2
    exact e
theorem PairsAt.keep {H H' : Hp} {ts : List Addr} {ps : List (Nat × Nat)} (h : PairsAt H ts ps) (k : ∀ b xs, H b = some (.tup xs) → H' b = some (.tup xs)) : PairsAt H' ts ps := ⟨h.len, fun i t p h1 h2 => k _ _ (h.at_ i t p h1 h2)⟩
section
variable {P : Program} {w : World} {K : PySem.W.Frag} {mg : Str → Option Value} {base : Heap} {cs : List (Addr × Addr)}
def spClosed (K : PySem.W.Frag) : Sp := fun vs H Q _ => ∃ (p : Addr) (r : List Str) (c : Nat), vs = [.ref p, .int (c : Nat)] ∧ SqT K H p (sV r) ∧ Q (.bl (decide (c + 1 < r.length))) H
theorem sc_closed : FnScope ["row", "column"] ["row", "column"] (defScope s_is_closed) := ⟨rfl, rfl, rfl, by decide +kernel, rfl, by decide +kernel, by decide +kernel⟩
theorem ok_closed {f : Addr} {fd : FuncData} (T : Txt mg) (F : Fun K "is_closed" "is_closed" s_is_closed f fd) : FnOk P w K mg base CX0 1 f fd ["row", "column"] (spClosed K) := by
  refine F.ok sc_closed (fun vs H Q E h => ?_) (fun cdv A outer s H vs Q E hr h => ?_)
  · obtain ⟨p, r, c, rfl, _⟩ := h
    rfl
  · obtain ⟨p, r, c, rfl, hS, k⟩ := h
    refine ⟨_, pss_one (ps_ret (pe_cmpR op_lt (pe_op op_add (pv 1) pe_int) (pe_callB call_len_seq (by rfl) T.len PySem.boot_len (pa_cons (pv 0) pa_nil)) (nomark _))), ?_⟩
    refine ⟨_, rfl, c, 1, rfl, rfl, _, rfl, p, _, rfl, .inr hS, _, _, rfl, rfl, ?_⟩
    have ls : (sV r).length = r.length := List.length_map ..
    have e : decide ((c : Int) + 1 < ((sV r).length : Int)) = decide (c + 1 < r.length) := by
      rw [ls]
      by_cases h : c + 1 < r.length
      · rw [decide_eq_true h, decide_eq_true (by omega)]
      · rw [decide_eq_false h, decide_eq_false (by omega)]
    show Q (.bl (decide ((c : Int) + 1 < ((sV r).length : Int)))) H
    rw [e]
    exact k
def spRuns (K : PySem.W.Frag) (cs : List (Addr × Addr)) : Sp := fun vs H Q _ => ∃ (a : Addr) (as : List Addr) (rows : List (List Str)) (c : Nat), vs = [.ref a, .int (c : Nat)] ∧ Tabs cs H ∧ PageAt K H a as rows ∧ rows.length ≤ 30 ∧
  ∀ (r : Addr) (ts : List Addr) (H' : Hp), Ex cs H H' → H r = none → H' r = some (.lst (ts.map V.ref)) → PairsAt H' ts (runsB rows c) → Q (.ref r) H'
theorem sc_runs : FnScope ["page", "column", "runs", "begin", "end"] ["page", "column"] (defScope s_closed_runs) := ⟨rfl, rfl, rfl, by decide +kernel, rfl, by decide +kernel, by decide +kernel⟩
theorem ok_runs {f g : Addr} {fd fdg : FuncData} (T : Txt mg) (F : Fun K "closed_runs" "closed_runs" s_closed_runs f fd)
    (G : FnOk P w K mg base CX0 1 g fdg ["row", "column"] (spClosed K)) (kp : PySem.W.keepIn K (.ref g) = true) (bd : Binds K fdg ["row", "column"] []) (mgg : mg "is_closed" = some (.ref g)) : FnOk P w K mg base CX0 2 f fd ["page", "column"] (spRuns K cs) := by
  refine F.ok sc_runs (fun vs H Q E h => ?_) (fun cdv A outer s H vs Q E hr h => ?_)
  · obtain ⟨a, as, rows, c, rfl, _⟩ := h
    rfl
  · obtain ⟨a, as, rows, c, rfl, hT, hP, hn, k⟩ := h
    have nd := sc_runs.nd
    refine ⟨_, pss_cons (ps_set (i := 2) nd rfl (.inl rfl) (pe_lst pa_nil)) (pss_cons (ps_set (i := 3) nd rfl (.inl rfl) pe_int)
      (pss_cons (ps_while PassesOwn.never (pt_cmpR op_lt (pv 3) (pe_callB call_len_seq (by rfl) T.len PySem.boot_len (pa_cons (pv 0) pa_nil)) (nomark _))
        (pss_cons (ps_set (i := 4) nd rfl (.inl rfl) (pv 3))
        (pss_cons (ps_while PassesOwn.never (PW.pt (pw_and (pt_cmpR op_lt (pv 4) (pe_callB call_len_seq (by rfl) T.len PySem.boot_len (pa_cons (pv 0) pa_nil)) (nomark _)) (pw_and1 (pt_val (pe_call G hr (by rfl) mgg kp bd .nil pass0 (pa_cons (pe_ix ix_list (pv 0) (pv 4) (fun _ _ => rfl)) (pa_cons (pv 1) pa_nil)))))))
            (pss_one (ps_aug (i := 4) nd rfl (.inl rfl) pe_int ip_add)))
        (pss_cons (ps_if (pt_cmpR op_gt (pv 4) (pv 3) (nomark _)) (pss_one (ps_expr (pe_bm PySem.F.plainAttrs_list PySem.F.slot_list_append PySem.F.type_list_append mt_append (pv 2) (pa_cons (pe_tup (pa_cons (pv 3) (pa_cons (pv 4) pa_nil))) pa_nil)))) pss_nil)
        (pss_one (ps_set (i := 3) nd rfl (.inl rfl) (pe_op op_add (pv 4) pe_int)))))))
      (pss_one (ps_ret (pv 2))))), ?_⟩
    refine ⟨small0, fun p np => ?_⟩
    -- the outer loop
    let runsAt : Nat → List (Nat × Nat) := fun k => ((List.range k).filter (stB rows c)).map fun i => (i, hiB rows c i)
    let Out : Nat → L2.St → Hp → Prop := fun m σ H1 => ∃ (b : Nat) (ts : List Addr) (e : Option V), σ = [some (.ref a), some (.int (c : Nat)), some (.ref p), some (.int (b : Nat)), e] ∧ m = rows.length + 1 - b ∧ b ≤ rows.length + 1 ∧ (b = 0 ∨ clB rows c (b - 1) = false) ∧ Ex cs H H1 ∧ H1 p = some (.lst (ts.map V.ref)) ∧ PairsAt H1 ts (runsAt b)
    refine ⟨Out, ⟨_, 0, [], none, rfl, rfl, Nat.zero_le _, .inl rfl, Ex.laid hT np, upd_same, rfl, fun i t q h => by simp at h⟩, ?_⟩
    rintro m σ H1 ⟨b, ts, e, rfl, rfl, hb, hst, x1, hp1, pr⟩
    have hl : (as.map V.ref).length = rows.length := by rw [List.length_map]; exact hP.len
    refine ⟨_, rfl, _, rfl, a, _, rfl, .inl (x1.sqL hP.lst), _, _, rfl, rfl, _, rfl, ?_⟩
    by_cases hlt : b < rows.length
    · rw [decide_eq_true (show (b : Int) < ((as.map V.ref).length : Int) by omega)]
      refine iteT ⟨Out (rows.length + 1 - (hiB rows c b + 1)), fun σ' H' o => ⟨_, by have := hi_ge rows c b; omega, o⟩, ?_⟩
      refine ⟨_, rfl, ?_⟩
      let Inn : Nat → L2.St → Hp → Prop := fun m σ H2 => ∃ e : Nat, σ = [some (.ref a), some (.int (c : Nat)), some (.ref p), some (.int (b : Nat)), some (.int (e : Nat))] ∧ m = rows.length - e ∧ b ≤ e ∧ e ≤ rows.length ∧ hiB rows c e = hiB rows c b ∧ H2 = H1
      refine ⟨Inn, ⟨_, b, rfl, rfl, Nat.le_refl _, Nat.le_of_lt hlt, rfl, rfl⟩, ?_⟩
      rintro m2 σ2 H2 ⟨e2, rfl, rfl, h1, h2, h3, rfl⟩
      refine ⟨_, rfl, _, rfl, a, _, rfl, .inl (x1.sqL hP.lst), _, _, rfl, rfl, _, rfl, ?_⟩
      have hsz : (ts.map V.ref).length < sizeLine := by
        have q1 : (runsAt b).length ≤ (List.range b).length := by
          show (((List.range b).filter (stB rows c)).map _).length ≤ _
          rw [List.length_map]
          exact List.length_filter_le ..
        rw [List.length_range] at q1
        rw [List.length_map, pr.len]
        have : (1000 : Nat) < sizeLine := by decide
        omega
      cases hcl : clB rows c e2 with
      | true =>
        have hlt2 := cl_lt hcl
        obtain ⟨q, hq⟩ := getP (xs := as) (i := e2) (by rw [hP.len]; exact hlt2)
        obtain ⟨r, hr2⟩ := getP hlt2
        have hcr : decide (c + 1 < r.length) = true := by
          unfold clB at hcl
          rw [hr2] at hcl
          exact hcl
        rw [decide_eq_true (show (e2 : Int) < ((as.map V.ref).length : Int) by omega)]
        refine iteT ⟨_, rfl, _, rfl, a, _, e2, .ref q, rfl, rfl, x1.sqL hP.lst, atI_nat (by rw [List.getElem?_map, hq]; rfl), _, rfl, q, r, c, rfl, x1.sqT (hP.row e2 q r hq hr2), true, by rw [hcr], iteT ?_⟩
        refine ⟨Inn (rows.length - (e2 + 1)), fun σ' H' o => ⟨_, by omega, o⟩, _, rfl, e2, 1, rfl, rfl, e2 + 1, rfl, rfl, by omega, by omega, by rw [← hi_yes hcl]; exact h3, rfl⟩
      | false =>
        have hnc := hcl
        have he : hiB rows c b = e2 := h3.symm.trans (hi_no hnc)
        by_cases hlt2 : e2 < rows.length
        · obtain ⟨q, hq⟩ := getP (xs := as) (i := e2) (by rw [hP.len]; exact hlt2)
          obtain ⟨r, hr2⟩ := getP hlt2
          have hcr : decide (c + 1 < r.length) = false := by
            unfold clB at hcl
            rw [hr2] at hcl
            exact hcl
          rw [decide_eq_true (show (e2 : Int) < ((as.map V.ref).length : Int) by omega)]
          refine iteT ⟨_, rfl, _, rfl, a, _, e2, .ref q, rfl, rfl, x1.sqL hP.lst, atI_nat (by rw [List.getElem?_map, hq]; rfl), _, rfl, q, r, c, rfl, x1.sqT (hP.row e2 q r hq hr2), false, by rw [hcr], iteF ?_⟩
          refine ⟨_, rfl, _, rfl, _, _, rfl, rfl, _, rfl, ?_⟩
          by_cases hgt : b < e2
          · rw [decide_eq_true (show (b : Int) < (e2 : Int) by omega)]
            refine iteT ⟨_, rfl, .inl ⟨rfl, _, SqL.of hp1⟩, _, rfl, _, rfl, (by show 2 ≤ sizeLine; decide), fun t nt => ⟨p, ts.map V.ref, .ref t, rfl, rfl, (by rw [upd_ne (ne_of_none hp1 nt)]; exact hp1), hsz, ?_⟩⟩
            refine ⟨_, rfl, e2, 1, rfl, rfl, ?_⟩
            have ntp : t ≠ p := fun z => by rw [z, hp1] at nt; cases nt
            have eR : runsAt (e2 + 1) = runsAt b ++ [(b, e2)] := by
              show ((List.range (e2 + 1)).filter (stB rows c)).map _ = _
              rw [← he, starts_turn hst, if_pos (hi_in 0 b b rfl (by omega)), List.map_append]
              rfl
            refine ⟨e2 + 1, ts ++ [t], some (.int (e2 : Nat)), rfl, by omega, by omega, .inr (by rw [Nat.add_sub_cancel]; exact hnc), ex_new hT (x1.trans (Ex.laid x1.tab nt)) np, ?_, ?_⟩
            · rw [upd_same, List.map_append]; rfl
            · rw [eR]
              refine (pr.keep fun q xs h => ?_).snoc ?_
              · rw [upd_ne (fun z => by rw [z, hp1] at h; cases h), upd_ne (ne_of_none h nt)]; exact h
              · rw [upd_ne ntp, upd_same]
          · rw [decide_eq_false (show ¬ (b : Int) < (e2 : Int) by omega)]
            refine iteF ⟨_, rfl, e2, 1, rfl, rfl, ?_⟩
            have eR : runsAt (e2 + 1) = runsAt b := by
              show ((List.range (e2 + 1)).filter (stB rows c)).map _ = _
              rw [← he, starts_turn hst, if_neg (fun z => by rw [hi_yes z] at he; have := hi_ge rows c (b + 1); omega), List.append_nil]
            refine ⟨e2 + 1, ts, some (.int (e2 : Nat)), rfl, by omega, by omega, .inr (by rw [Nat.add_sub_cancel]; exact hnc), x1, hp1, ?_⟩
            rw [eR]
            exact pr

        · rw [decide_eq_false (show ¬ (e2 : Int) < ((as.map V.ref).length : Int) by omega)]
          refine iteF (iteF ?_)
          refine ⟨_, rfl, _, rfl, _, _, rfl, rfl, _, rfl, ?_⟩
          by_cases hgt : b < e2
          · rw [decide_eq_true (show (b : Int) < (e2 : Int) by omega)]
            refine iteT ⟨_, rfl, .inl ⟨rfl, _, SqL.of hp1⟩, _, rfl, _, rfl, (by show 2 ≤ sizeLine; decide), fun t nt => ⟨p, ts.map V.ref, .ref t, rfl, rfl, (by rw [upd_ne (ne_of_none hp1 nt)]; exact hp1), hsz, ?_⟩⟩
            refine ⟨_, rfl, e2, 1, rfl, rfl, ?_⟩
            have ntp : t ≠ p := fun z => by rw [z, hp1] at nt; cases nt
            have eR : runsAt (e2 + 1) = runsAt b ++ [(b, e2)] := by
              show ((List.range (e2 + 1)).filter (stB rows c)).map _ = _
              rw [← he, starts_turn hst, if_pos (hi_in 0 b b rfl (by omega)), List.map_append]
              rfl
            refine ⟨e2 + 1, ts ++ [t], some (.int (e2 : Nat)), rfl, by omega, by omega, .inr (by rw [Nat.add_sub_cancel]; exact hnc), ex_new hT (x1.trans (Ex.laid x1.tab nt)) np, ?_, ?_⟩
            · rw [upd_same, List.map_append]; rfl
            · rw [eR]
              refine (pr.keep fun q xs h => ?_).snoc ?_
              · rw [upd_ne (fun z => by rw [z, hp1] at h; cases h), upd_ne (ne_of_none h nt)]; exact h
              · rw [upd_ne ntp, upd_same]
          · rw [decide_eq_false (show ¬ (b : Int) < (e2 : Int) by omega)]
            refine iteF ⟨_, rfl, e2, 1, rfl, rfl, ?_⟩
            have eR : runsAt (e2 + 1) = runsAt b := by
              show ((List.range (e2 + 1)).filter (stB rows c)).map _ = _
              rw [← he, starts_turn hst, if_neg (fun z => by rw [hi_yes z] at he; have := hi_ge rows c (b + 1); omega), List.append_nil]
            refine ⟨e2 + 1, ts, some (.int (e2 : Nat)), rfl, by omega, by omega, .inr (by rw [Nat.add_sub_cancel]; exact hnc), x1, hp1, ?_⟩
            rw [eR]
            exact pr
    · rw [decide_eq_false (show ¬ (b : Int) < ((as.map V.ref).length : Int) by omega)]
      refine iteF ⟨_, rfl, ?_⟩
      refine k p ts H1 x1 np hp1 ?_
      have e1 : runsAt b = runsB rows c := by
        show ((List.range b).filter (stB rows c)).map _ = _
        rw [starts_end (by omega)]
        rfl
      rw [← e1]
      exact pr
end
end TG
namespace TG
open PySem L2 Gx
abbrev nilS : Str := ⟨#[]⟩
def cellsB (rows : List (List Str)) (c b e : Nat) : List Str := ((rows.drop b).take (e - b)).map fun r => r.getD c nilS
def longB : List Str → Nat
  | [] => 0
  | z :: zs => max z.length (longB zs)
def widthB (zs : List Str) (gap least : Int) : Int := if least > (longB zs : Int) + gap then least else (longB zs : Int) + gap
def holdB (zs : List Str) (b : Nat) (gap least : Int) : List Int := if least < (longB zs : Int) + gap then ((List.range zs.length).filter fun i => decide ((zs.getD i nilS).length = longB zs)).map fun i => ((b + i : Nat) : Int) else []
theorem long_ge : ∀ {zs : List Str} {z : Str}, z ∈ zs → z.length ≤ longB zs
  | y :: zs, z, h => by
    rcases List.mem_cons.mp h with e | e
    · subst e; exact Nat.le_max_left _ _
    · exact Nat.le_trans (long_ge e) (Nat.le_max_right _ _)
theorem long_in : ∀ {zs : List Str}, zs ≠ [] → ∃ z ∈ zs, z.length = longB zs
  | [z], _ => ⟨z, List.mem_singleton.mpr rfl, by simp [longB]⟩
  | z :: y :: zs, _ => by
    obtain ⟨x, hx, e⟩ := long_in (zs := y :: zs) (by simp)
    by_cases h : longB (y :: zs) ≤ z.length
    · exact ⟨z, List.mem_cons_self, (Nat.max_eq_left h).symm⟩
    · exact ⟨x, List.mem_cons_of_mem _ hx, by rw [e]; exact (Nat.max_eq_right (by omega)).symm⟩
theorem cells_len {rows : List (List Str)} {c b e : Nat} (h : e ≤ rows.length) : (cellsB rows c b e).length = e - b := by
  unfold cellsB
  rw [List.length_map, List.length_take, List.length_drop]
  omega
theorem cells_get {rows : List (List Str)} {c b e i : Nat} (h : b + i < e) {r : List Str} (hr : rows[b + i]? = some r) : (cellsB rows c b e)[i]? = some (r.getD c nilS) := by
  unfold cellsB
  rw [List.getElem?_map, List.getElem?_take_of_lt (by omega), List.getElem?_drop, hr]
  rfl
theorem cells_mem {rows : List (List Str)} {c b e : Nat} (hO : PgOk rows) (hc : ∀ i, b ≤ i → i < e → clB rows c i = true) (he : e ≤ rows.length) {z : Str} (h : z ∈ cellsB rows c b e) : CellOk z := by
  obtain ⟨i, hi, e1⟩ := List.getElem_of_mem h
  rw [cells_len he] at hi
  obtain ⟨r, hr⟩ := getP (xs := rows) (i := b + i) (by omega)
  have q := cells_get (c := c) (b := b) (e := e) (i := i) (by omega) hr
  have hcl := hc (b + i) (by omega) (by omega)
  unfold clB at hcl
  rw [hr] at hcl
  have hcr : c + 1 < r.length := of_decide_eq_true hcl
  rw [List.getElem?_eq_getElem (by rw [cells_len he]; exact hi), e1] at q
  cases q
  have := (hO.rows r (List.mem_of_getElem? hr)).cells (r[c]'(by omega)) (List.getElem_mem _)
  rw [List.getD_eq_getElem?_getD, List.getElem?_eq_getElem (by omega)]
  exact this
theorem cut_mid {xs : List V} {b e : Nat} (h1 : b ≤ e) (h2 : e ≤ xs.length) : cutV xs (some (b : Int)) (some (e : Int)) = (xs.drop b).take (e - b) := by
  unfold cutV
  rw [HT.sIx_nat, HT.sIx_nat, Nat.min_eq_left h2, Nat.min_eq_left (Nat.le_trans h1 h2)]
section
variable {P : Program} {w : World} {K : PySem.W.Frag} {mg : Str → Option Value} {base : Heap} {cs : List (Addr × Addr)}
/-- the told tuple at t, its holders at h -/
def DescAt (H : Hp) (t h : Addr) (c b e : Nat) (zs : List Str) (gap least : Int) : Prop :=
  H t = some (.tup [.int (c : Nat), .int (b : Nat), .int (e : Nat), .int (widthB zs gap least), .bl (rightB zs), .ref h]) ∧ H h = some (.lst ((holdB zs b gap least).map V.int))
def spDesc (K : PySem.W.Frag) (cs : List (Addr × Addr)) : Sp := fun vs H Q _ => ∃ (a st : Addr) (as : List Addr) (rows : List (List Str)) (gap least : Int) (c b e : Nat), vs = [.ref a, .ref st, .int (c : Nat), .int (b : Nat), .int (e : Nat)] ∧ Tabs cs H ∧ PageAt K H a as rows ∧ PgOk rows ∧ StyleAt K H st gap least ∧
  b < e ∧ e ≤ rows.length ∧ (∀ i, b ≤ i → i < e → clB rows c i = true) ∧ ∀ (t h : Addr) (H' : Hp), Ex cs H H' → H t = none → H h = none → DescAt H' t h c b e (cellsB rows c b e) gap least → Q (.ref t) H'
theorem sc_desc : FnScope ["page", "style", "column", "begin", "end", "gap", "least", "cells", "longest", "holders", "row", "at", "cell"] ["page", "style", "column", "begin", "end"] (defScope s_described) := ⟨rfl, rfl, rfl, by decide +kernel, rfl, by decide +kernel, by decide +kernel⟩
theorem ok_desc {f c Pt g : Addr} {fd fdg : FuncData} (T : Txt mg) (F : Fun K "described" "described" s_described f fd) (hc : fd.code = .ref c) (TB : GxR.TabB base mg c Pt) (hm : (c, Pt) ∈ cs)
    (G : FnOk P w K mg base CX0 5 g fdg ["cells"] (spRight K cs)) (kp : PySem.W.keepIn K (.ref g) = true) (bd : Binds K fdg ["cells"] []) (mgg : mg "stands_right" = some (.ref g)) : FnOk P w K mg base CX0 6 f fd ["page", "style", "column", "begin", "end"] (spDesc K cs) := by
  refine fun_okT F hc sc_desc (fun vs H Q E h => ?_) (fun A outer s H vs Q E hr h => ?_)
  · obtain ⟨a, st, as, rows, gap, least, cc, b, e, rfl, _⟩ := h
    rfl
  · obtain ⟨a, st, as, rows, gap, least, cc, b, e, rfl, hT, hP, hO, ⟨hS, _⟩, hbe, hen, hcl, k⟩ := h
    have nd := sc_desc.nd
    refine ⟨_, pss_cons (ps_asg (pv 1) (pg_tup rfl (pgs_cons (pg_name (i := 5) nd rfl (.inl rfl)) (pgs_cons (pg_name (i := 6) nd rfl (.inl rfl)) pgs_nil))))
      (pss_cons (ps_setLc (i := 7) (own := [("row", 10)]) (g := gName 10) rfl nd rfl rfl (sw_true rfl rfl rfl (by decide +kernel)) (pi_list (pe_slice sl_list (pv 0) (po_some (pv 3)) (po_some (pv 4)))) (blkOk_by (own := [("row", 10)]) (N := ["page", "style", "column", "begin", "end", "gap", "least", "cells", "longest", "holders", "row", "at", "cell"]) (sc := defScope s_described) (by decide +kernel))
        (fun _ _ _ _ _ => pg_name (i := 10) nd rfl (Or.inl rfl)) (fun _ _ _ _ _ => pts_nil) (fun _ _ _ _ _ => pe_ix (r := rIxT K) ix_tup (pv 10) (pv 2) (fun _ _ => rfl)))
      (pss_cons (ps_set (i := 8) nd rfl (.inr rfl) (pe_maxG (k := 0) (P := Pt) (hr.mono (by decide)) (by rfl) T.max TB rfl ⟨rfl, rfl, by decide +kernel, by decide +kernel, rfl, rfl⟩ (pi_list (pv 7)) (fun A' code s4 H4 fp hr' => pe_callB call_len_str (by rfl) T.len PySem.boot_len (pa_cons (pv 0) pa_nil)) (fun _ => rfl)))
      (pss_cons (ps_set (i := 9) nd rfl (.inl rfl) (pe_lst pa_nil))
      (pss_cons (ps_if (pt_cmpR op_gt (pe_op op_add (pv 8) (pv 5)) (pv 6) (nomark _))
        (pss_one (ps_setLc (i := 9) (own := [("at", 11), ("cell", 12)]) (g := gTup K 2 (gCons (gName 11) (gCons (gName 12) gNil))) rfl nd rfl rfl (sw_true rfl rfl rfl (by decide +kernel)) (pi_enum (by rfl) T.enum (pa_cons (pv 7) pa_nil)) (blkOk_by (own := [("at", 11), ("cell", 12)]) (N := ["page", "style", "column", "begin", "end", "gap", "least", "cells", "longest", "holders", "row", "at", "cell"]) (sc := defScope s_described) (by decide +kernel))
          (fun _ _ _ _ _ => pg_tup rfl (pgs_cons (pg_name (i := 11) nd rfl (.inl rfl) (.inr rfl)) (pgs_cons (pg_name (i := 12) nd rfl (.inl rfl) (.inr rfl)) pgs_nil))) (fun _ _ _ _ _ => pts_one (pt_cmpR op_eq (pe_callB call_len_str (by rfl) T.len PySem.boot_len (pa_cons (pv 12) pa_nil)) (pv 8) (nomark _))) (fun _ _ _ _ _ => pe_op op_add (pv 3) (pv 11)))) pss_nil)
      (pss_one (ps_ret (pe_tup (pa_cons (pv 2) (pa_cons (pv 3) (pa_cons (pv 4) (pa_cons (pe_callB (call_max2 rfl) (by rfl) T.max (by decide +kernel) (pa_cons (pe_op op_add (pv 8) (pv 5)) (pa_cons (pv 6) pa_nil))) (pa_cons (pe_call G hr (by rfl) mgg kp bd .nil pass0 (pa_cons (pv 7) pa_nil)) (pa_cons (pv 9) pa_nil))))))))))))), ?_⟩
    have hL : cutV (as.map V.ref) (some (b : Int)) (some (e : Int)) = ((as.drop b).take (e - b)).map V.ref := by
      rw [cut_mid (by omega) (by rw [List.length_map, hP.len]; exact hen), ← List.map_drop, ← List.map_take]
    have lc := cells_len (c := cc) (b := b) hen
    have ll := hO.len
    have lsz : (1000 : Nat) < sizeLine := by decide
    have lsV : (sV (cellsB rows cc b e)).length = e - b := by rw [List.length_map, lc]
    have sll : ((as.drop b).take (e - b)).length = e - b := by rw [List.length_take, List.length_drop, hP.len]; omega
    refine ⟨_, rfl, st, _, rfl, hS, rfl, _, _, rfl, _, _, rfl, rfl, ?_⟩
    refine ⟨_, rfl, _, rfl, (b : Int), rfl, _, rfl, (e : Int), rfl, a, _, rfl, hP.lst, fun p np => ?_⟩
    rw [hL]
    refine ⟨p, rfl, ⟨_, SqL.of upd_same⟩, fun D nD => lc_list (xs := ((as.drop b).take (e - b)).map V.ref) (fun i H' => Ex cs H H' ∧ H' p = some (.lst (((as.drop b).take (e - b)).map V.ref)) ∧ H' D = some (.lst (sV ((cellsB rows cc b e).take i)))) ?_ (fun i H' _ x => SqL.of x.2.1) ?_ ?_⟩
    · have x1 := Ex.laid (o := .lst (((as.drop b).take (e - b)).map V.ref)) hT np
      exact ⟨x1.trans (Ex.laid x1.tab nD), by rw [upd_ne (fun z => by rw [← z, upd_same] at nD; cases nD), upd_same], upd_same⟩
    · rintro i v H1 hv ⟨x1, hp, hD⟩
      obtain ⟨q, hq, rfl⟩ := get_map hv
      have hi : i < e - b := by have := (List.getElem?_eq_some_iff.mp hq).1; omega
      rw [List.getElem?_take_of_lt hi, List.getElem?_drop] at hq
      obtain ⟨r, hr2⟩ := getP (xs := rows) (i := b + i) (by omega)
      have hc1 := hcl (b + i) (by omega) (by omega)
      unfold clB at hc1
      rw [hr2] at hc1
      have hcr : cc + 1 < r.length := of_decide_eq_true hc1
      have hz : (sV r)[cc]? = some (V.str (r.getD cc nilS)) := by
        rw [List.getElem?_map, List.getD_eq_getElem?_getD, List.getElem?_eq_getElem (by omega)]; rfl
      have nD0 : H D = none := (Ex.laid (o := .lst (((as.drop b).take (e - b)).map V.ref)) hT np).old _ nD
      refine ⟨rfl, _, rfl, _, rfl, q, sV r, cc, _, rfl, rfl, x1.sqT (hP.row _ q r hq hr2), atI_nat hz, _, hD, ?_, ex_new hT x1 nD0, ?_, ?_⟩
      · rw [List.length_map, List.length_take]; omega
      · rw [upd_ne (fun z => by rw [← z, upd_same] at nD; cases nD)]; exact hp
      · rw [upd_same, List.take_add_one, cells_get (by omega) hr2]
        simp [sV]
    · rintro H1 ⟨x1, hp, hD⟩
      rw [List.length_map, sll, ← lc, List.take_of_length_le (Nat.le_refl _)] at hD
      -- longest
      refine ⟨_, rfl, D, rfl, ⟨_, SqL.of hD⟩, x1.tab _ hm, fun H2 hH2 => ?_⟩
      have x2 := x1.trans (Ex.tabbed x1.tab hm hH2)
      have hD2 := (Ex.tabbed x1.tab hm hH2).lst hD
      refine max_by (w := walk_list (a := D) (xs := sV (cellsB rows cc b e))) (fun i => ((((cellsB rows cc b e).getD i nilS).length : Nat) : Int)) (by omega) (fun _ H' => Ex cs H H' ∧ H' D = some (.lst (sV (cellsB rows cc b e)))) ⟨x2, hD2⟩ (fun i H' _ x => SqL.of x.2) (fun i v H3 H4 hi x y Z hZ => ?_) (fun m H3 x3 hex hall => ?_)
      · obtain ⟨rfl, hv⟩ := y
        obtain ⟨z, hz, rfl⟩ := get_map hv
        refine ⟨_, rfl, z, rfl, line10 (by have := (cells_mem hO hcl hen (List.mem_of_getElem? hz)).len; omega), ?_⟩
        have q := hZ _ x
        have ez : (cellsB rows cc b e).getD i nilS = z := by rw [List.getD_eq_getElem?_getD, hz]; rfl
        rw [ez] at q
        exact q
      · obtain ⟨x3, hD3⟩ := x3
        have em : m = ((longB (cellsB rows cc b e) : Nat) : Int) := by
          obtain ⟨i, hi, e1⟩ := hex
          obtain ⟨z, hz, e2⟩ := long_in (zs := cellsB rows cc b e) (fun q => by rw [q] at lc; simp at lc; omega)
          obtain ⟨j, hj, e3⟩ := List.getElem_of_mem hz
          have h1 := hall j (by omega)
          rw [List.getD_eq_getElem?_getD, List.getElem?_eq_getElem hj, e3] at h1
          have h1' : ((z.length : Nat) : Int) ≤ m := h1
          rw [List.getD_eq_getElem?_getD, List.getElem?_eq_getElem (by omega)] at e1
          have h2 := long_ge (List.getElem_mem (l := cellsB rows cc b e) (show i < _ by omega))
          have e1' : (((cellsB rows cc b e)[i]'(by omega)).length : Int) = m := e1
          omega
        subst em
        refine ⟨small0, fun h0 nh0 => ?_⟩
        have x4 := x3.trans (Ex.laid (o := .lst []) x3.tab nh0)
        have hD4 := (Ex.laid (o := .lst []) x3.tab nh0).lst hD3
        refine ⟨_, rfl, _, rfl, _, _, rfl, rfl, _, rfl, _, _, rfl, rfl, _, rfl, ?_⟩
        by_cases hg : least < ((longB (cellsB rows cc b e) : Nat) : Int) + gap
        · rw [decide_eq_true hg]
          refine iteT ⟨_, rfl, D, _, rfl, SqL.of hD4, fun D2 nD2 => lc_it (walk_enum (xs := sV (cellsB rows cc b e))) (fun i H' => Ex cs H H' ∧ H' D = some (.lst (sV (cellsB rows cc b e))) ∧ H' D2 = some (.lst (((List.range i).filter fun j => decide (((cellsB rows cc b e).getD j nilS).length = longB (cellsB rows cc b e))).map fun j => V.int ((b + j : Nat) : Int)))) ?_ (fun i H' _ x => SqL.of x.2.1) ?_ ?_⟩
          · exact ⟨x4.trans (Ex.laid x4.tab nD2), (Ex.laid x4.tab nD2).lst hD4, upd_same⟩
          · rintro i v H5 H6 hi ⟨x5, hD5, hh⟩ ⟨Tp, v1, u, rfl, hn, rfl, hv, hu⟩
            cases hv
            obtain ⟨z, hz, rfl⟩ := get_map hu
            have xl := Ex.laid (o := .tup [.int (i : Nat), .str z]) x5.tab hn
            have ez : (cellsB rows cc b e).getD i nilS = z := by rw [List.getD_eq_getElem?_getD, hz]; rfl
            have zl := (cells_mem hO hcl hen (List.mem_of_getElem? hz)).len
            refine ⟨Tp, _, rfl, .inl (.inl upd_same), rfl, _, _, rfl, _, _, rfl, rfl, rfl, _, rfl, z, rfl, line10 (by omega), _, rfl, rfl, _, rfl, ?_⟩
            have nD20 := x4.old _ nD2
            by_cases hzl : z.length = longB (cellsB rows cc b e)
            · rw [decide_eq_true (show V.int ((z.length : Nat) : Int) = V.int ((longB (cellsB rows cc b e) : Nat) : Int) by rw [hzl])]
              refine iteT ⟨_, rfl, _, rfl, _, _, rfl, rfl, _, xl.lst hh, ?_, ex_new hT (x5.trans xl) nD20, ?_, ?_⟩
              · have q : ((List.range i).filter fun j => decide (((cellsB rows cc b e).getD j nilS).length = longB (cellsB rows cc b e))).length ≤ (List.range i).length := List.length_filter_le ..
                rw [List.length_range] at q
                rw [List.length_map]
                omega
              · rw [upd_ne (fun z => by rw [← z] at nD2; rw [nD2] at hD4; cases hD4)]
                exact xl.lst hD5
              · have ef : [i].filter (fun j => decide (((cellsB rows cc b e).getD j nilS).length = longB (cellsB rows cc b e))) = [i] := by
                  simp only [List.filter_cons, List.filter_nil, ez, decide_eq_true hzl, if_true]
                rw [upd_same, List.range_succ, List.filter_append, List.map_append, ef, List.map_cons, List.map_nil, Int.natCast_add]
            · rw [decide_eq_false (show ¬ V.int ((z.length : Nat) : Int) = V.int ((longB (cellsB rows cc b e) : Nat) : Int) from fun q => hzl (by injection q with q; exact Int.ofNat.inj q))]
              refine iteF ⟨x5.trans xl, xl.lst hD5, ?_⟩
              rw [List.range_succ, List.filter_append, List.map_append]
              simp only [List.filter_cons, List.filter_nil, ez, decide_eq_false hzl]
              simpa using xl.lst hh
          · rintro H5 ⟨x5, hD5, hh⟩
            have h5 : H5 D2 = some (.lst ((holdB (cellsB rows cc b e) b gap least).map V.int)) := by
              rw [hh]
              unfold holdB
              rw [if_pos hg, List.map_map, lsV, lc]
              rfl
            have nHH := x4.old _ nD2
            refine ⟨_, rfl, _, rfl, _, rfl, _, rfl, _, rfl, _, _, rfl, rfl, _, rfl, _, _, rfl, _, rfl, D, cellsB rows cc b e, rfl, x5.tab, SqL.of hD5, by omega, fun z hz => cells_mem hO hcl hen hz, fun H6 x6 => ⟨_, rfl, (by show 6 ≤ sizeLine; decide), fun t nt => ?_⟩⟩
            have x7 := Ex.laid (o := .tup [.int (cc : Nat), .int (b : Nat), .int (e : Nat), .int (widthB (cellsB rows cc b e) gap least), .bl (rightB (cellsB rows cc b e)), .ref D2]) x6.tab nt
            exact k t D2 _ ((x5.trans x6).trans x7) ((x5.trans x6).old _ nt) nHH ⟨upd_same, (x6.trans x7).lst h5⟩
        · rw [decide_eq_false hg]
          have x5 := x4
          have hD5 := hD4
          have h5 : (upd H3 h0 (.lst [])) h0 = some (.lst ((holdB (cellsB rows cc b e) b gap least).map V.int)) := by
            rw [upd_same]
            unfold holdB
            rw [if_neg hg]
            rfl
          have nHH := x3.old _ nh0
          refine iteF ?_
          refine ⟨_, rfl, _, rfl, _, rfl, _, rfl, _, rfl, _, _, rfl, rfl, _, rfl, _, _, rfl, _, rfl, D, cellsB rows cc b e, rfl, x5.tab, SqL.of hD5, by omega, fun z hz => cells_mem hO hcl hen hz, fun H6 x6 => ⟨_, rfl, (by show 6 ≤ sizeLine; decide), fun t nt => ?_⟩⟩
          have x7 := Ex.laid (o := .tup [.int (cc : Nat), .int (b : Nat), .int (e : Nat), .int (widthB (cellsB rows cc b e) gap least), .bl (rightB (cellsB rows cc b e)), .ref h0]) x6.tab nt
          exact k t h0 _ ((x5.trans x6).trans x7) ((x5.trans x6).old _ nt) nHH ⟨upd_same, (x6.trans x7).lst h5⟩
end
end TG
namespace TG
open PySem L2 Gx
def ofCol (rows : List (List Str)) (c : Nat) : List (Nat × Nat × Nat) := (runsB rows c).map fun p => (c, p.1, p.2)
def entB (rows : List (List Str)) : List (Nat × Nat × Nat) := (List.range 5).flatMap (ofCol rows)
theorem flat_short {α : Type} {F : Nat → List α} {k : Nat} (h : ∀ c, k ≤ c → F c = []) : ∀ d, (List.range (k + d)).flatMap F = (List.range k).flatMap F := by
  intro d
  induction d with
  | zero => rfl
  | succ d ih =>
    rw [← Nat.add_assoc, List.range_succ, List.flatMap_append, ih, List.flatMap_cons, h (k + d) (by omega)]
    simp
theorem col_nil {rows : List (List Str)} {c m : Nat} (h : ∀ r ∈ rows, r.length ≤ m) (hc : m ≤ c + 1) : ofCol rows c = [] := by
  have e : ∀ i, stB rows c i = false := fun i => by
    unfold stB
    have : clB rows c i = false := by
      unfold clB
      cases q : rows[i]? with
      | none => rfl
      | some r => exact decide_eq_false (by have := h r (List.mem_of_getElem? q); omega)
    rw [this]
    rfl
  unfold ofCol runsB
  have : (List.range rows.length).filter (stB rows c) = [] := List.filter_eq_nil_iff.mpr fun i _ => by rw [e i]; exact Bool.false_ne_true
  rw [this]
  rfl
theorem cols_eq {rows : List (List Str)} {m : Nat} (h : ∀ r ∈ rows, r.length ≤ m) (h6 : m ≤ 6) : (List.range m).flatMap (ofCol rows) = entB rows := by
  have e := flat_short (F := ofCol rows) (k := m - 1) fun c hc => col_nil h (by omega)
  have e1 := e (m - (m - 1))
  have e2 := e (5 - (m - 1))
  rw [show m - 1 + (m - (m - 1)) = m by omega] at e1
  rw [show m - 1 + (5 - (m - 1)) = 5 by omega] at e2
  unfold entB
  rw [e1, e2]
theorem run_facts {rows : List (List Str)} {c i : Nat} {p : Nat × Nat} (h : (runsB rows c)[i]? = some p) : p.1 < p.2 ∧ p.2 ≤ rows.length ∧ ∀ j, p.1 ≤ j → j < p.2 → clB rows c j = true := by
  obtain ⟨x, hx, rfl⟩ := get_map h
  have hm := List.mem_filter.mp (List.mem_of_getElem? hx)
  have hst := hm.2
  have hc : clB rows c x = true := by
    unfold stB at hst
    exact (Bool.and_eq_true_iff.mp hst).1
  refine ⟨?_, hi_le (Nat.le_of_lt (cl_lt hc)), fun j h1 h2 => hi_in (j - x) x j (by omega) h2⟩
  show x < hiB rows c x
  rw [hi_yes hc]
  exact hi_ge rows c (x + 1)
/-- the told tuples at ts, their holders at hs -/
structure DescsAt (H : Hp) (ts hs : List Addr) (es : List (Nat × Nat × Nat)) (rows : List (List Str)) (gap least : Int) : Prop where
  len : ts.length = es.length
  len2 : hs.length = es.length
  at_ : ∀ (i : Nat) (t h : Addr) (q : Nat × Nat × Nat), ts[i]? = some t → hs[i]? = some h → es[i]? = some q → DescAt H t h q.1 q.2.1 q.2.2 (cellsB rows q.1 q.2.1 q.2.2) gap least
theorem DescsAt.snoc {H : Hp} {ts hs : List Addr} {es : List (Nat × Nat × Nat)} {rows : List (List Str)} {gap least : Int} {t h : Addr} {q : Nat × Nat × Nat} (x : DescsAt H ts hs es rows gap least) (e : DescAt H t h q.1 q.2.1 q.2.2 (cellsB rows q.1 q.2.1 q.2.2) gap least) : DescsAt H (ts ++ [t]) (hs ++ [h]) (es ++ [q]) rows gap least := by
  refine ⟨by rw [List.length_append, List.length_append, x.len]; rfl, by rw [List.length_append, List.length_append, x.len2]; rfl, fun i u v p h1 h2 h3 => ?_⟩
  by_cases hi : i < ts.length
  · rw [List.getElem?_append_left hi] at h1
    rw [List.getElem?_append_left (by rw [x.len2, ← x.len]; exact hi)] at h2
    rw [List.getElem?_append_left (by rw [← x.len]; exact hi)] at h3
    exact x.at_ i u v p h1 h2 h3
  · have hl := (List.getElem?_eq_some_iff.mp h1).1
    rw [List.length_append, List.length_singleton] at hl
    have e1 : i = ts.length := by omega
    subst e1
    rw [List.getElem?_append_right (Nat.le_refl _), Nat.sub_self] at h1
    rw [x.len, ← x.len2, List.getElem?_append_right (Nat.le_refl _), Nat.sub_self] at h2
    rw [x.len, List.getElem?_append_right (Nat.le_refl _), Nat.sub_self] at h3
    cases h1
    cases h2
    cases h3
    exact e
theorem DescsAt.keep {H H' : Hp} {ts hs : List Addr} {es : List (Nat × Nat × Nat)} {rows : List (List Str)} {gap least : Int} (x : DescsAt H ts hs es rows gap least) (k : ∀ b o, H b = some o → (b ∈ ts ∨ b ∈ hs) → (∀ ps, o ≠ .tbl ps) → H' b = some o) : DescsAt H' ts hs es rows gap least :=
  ⟨x.len, x.len2, fun i t h q h1 h2 h3 => ⟨k _ _ (x.at_ i t h q h1 h2 h3).1 (.inl (List.mem_of_getElem? h1)) (fun ps z => by cases z), k _ _ (x.at_ i t h q h1 h2 h3).2 (.inr (List.mem_of_getElem? h2)) (fun ps z => by cases z)⟩⟩
theorem StyleAt.ex {K : PySem.W.Frag} {cs : List (Addr × Addr)} {H H' : Hp} {a : Addr} {gap least : Int} (p : StyleAt K H a gap least) (e : Ex cs H H') : StyleAt K H' a gap least := ⟨e.sqT p.tup, p.g0, p.g1, p.l0, p.l1⟩
theorem flat_len {α : Type} {F : Nat → List α} {b : Nat} (h : ∀ c, (F c).length ≤ b) : ∀ n, ((List.range n).flatMap F).length ≤ n * b := by
  intro n
  induction n with
  | zero => simp
  | succ n ih =>
    rw [List.range_succ, List.flatMap_append, List.length_append, List.flatMap_cons, List.flatMap_nil, List.append_nil, Nat.succ_mul]
    have := h n
    omega
theorem col_len (rows : List (List Str)) (c : Nat) : (ofCol rows c).length ≤ rows.length := by
  unfold ofCol runsB
  rw [List.length_map, List.length_map]
  have : ((List.range rows.length).filter (stB rows c)).length ≤ (List.range rows.length).length := List.length_filter_le ..
  rw [List.length_range] at this
  exact this
def rLenSeq (K : PySem.W.Frag) : List V → Hp → VK → Prop := fun xs H Q => ∃ p ys, xs = [V.ref p] ∧ (SqL K H p ys ∨ SqT K H p ys) ∧ Q (.int (ys.length : Nat)) H
section
variable {P : Program} {w : World} {K : PySem.W.Frag} {mg : Str → Option Value} {base : Heap} {cs : List (Addr × Addr)}
def spStr (K : PySem.W.Frag) (cs : List (Addr × Addr)) : Sp := fun vs H Q _ => ∃ (a st : Addr) (as : List Addr) (rows : List (List Str)) (gap least : Int), vs = [.ref a, .ref st] ∧ Tabs cs H ∧ PageAt K H a as rows ∧ PgOk rows ∧ StyleAt K H st gap least ∧
  ∀ (r : Addr) (ts hs : List Addr) (H' : Hp), Ex cs H H' → H r = none → (∀ t ∈ ts, H t = none) → (∀ h ∈ hs, H h = none) → H' r = some (.lst (ts.map V.ref)) → DescsAt H' ts hs (entB rows) rows gap least → Q (.ref r) H'
theorem sc_str : FnScope ["page", "style", "told", "column", "begin", "end"] ["page", "style"] (defScope s_stretches) := ⟨rfl, rfl, rfl, by decide +kernel, rfl, by decide +kernel, by decide +kernel⟩
theorem ok_str {f c Pt g1 g2 g3 g4 : Addr} {fd fd1 fd2 fd3 fd4 : FuncData} (T : Txt mg) (F : Fun K "stretches" "stretches" s_stretches f fd) (hc : fd.code = .ref c) (TB : GxR.TabB base mg c Pt) (hm : (c, Pt) ∈ cs)
    (G1 : FnOk P w K mg base CX0 11 g1 fd1 ["page"] (spCheck K cs)) (k1 : PySem.W.keepIn K (.ref g1) = true) (b1 : Binds K fd1 ["page"] []) (m1 : mg "check_page" = some (.ref g1))
    (G2 : FnOk P w K mg base CX0 2 g2 fd2 ["style"] (spStyle K)) (k2 : PySem.W.keepIn K (.ref g2) = true) (b2 : Binds K fd2 ["style"] []) (m2 : mg "check_style" = some (.ref g2))
    (G3 : FnOk P w K mg base CX0 2 g3 fd3 ["page", "column"] (spRuns K cs)) (k3 : PySem.W.keepIn K (.ref g3) = true) (b3 : Binds K fd3 ["page", "column"] []) (m3 : mg "closed_runs" = some (.ref g3))
    (G4 : FnOk P w K mg base CX0 6 g4 fd4 ["page", "style", "column", "begin", "end"] (spDesc K cs)) (k4 : PySem.W.keepIn K (.ref g4) = true) (b4 : Binds K fd4 ["page", "style", "column", "begin", "end"] []) (m4 : mg "described" = some (.ref g4)) :
    FnOk P w K mg base CX0 12 f fd ["page", "style"] (spStr K cs) := by
  refine fun_okT F hc sc_str (fun vs H Q E h => ?_) (fun A outer s H vs Q E hr h => ?_)
  · obtain ⟨a, st, as, rows, gap, least, rfl, _⟩ := h
    rfl
  · obtain ⟨a, st, as, rows, gap, least, rfl, hT, hP, hO, hS, k⟩ := h
    have nd := sc_str.nd
    refine ⟨_, pss_cons (ps_expr (pe_call G1 hr (by rfl) m1 k1 b1 .nil pass0 (pa_cons (pv 0) pa_nil))) (pss_cons (ps_expr (pe_call G2 (hr.mono (by decide)) (by rfl) m2 k2 b2 .nil pass0 (pa_cons (pv 1) pa_nil)))
      (pss_cons (ps_set (i := 2) nd rfl (.inl rfl) (pe_lst pa_nil))
      (pss_cons (ps_for PassesOwn.never rfl (pi_range1 (by rfl) T.range (pa_cons (pe_maxG (k := 0) (P := Pt) (hr.mono (by decide)) (by rfl) T.max TB rfl ⟨rfl, rfl, by decide +kernel, by decide +kernel, rfl, rfl⟩ (pi_list (pv 0)) (fun A' code s4 H4 fp hr' => pe_callB (r := rLenSeq K) call_len_seq (by rfl) T.len PySem.boot_len (pa_cons (pv 0) pa_nil)) (fun _ => rfl)) pa_nil)) (pg_name (i := 3) nd rfl (.inl rfl))
        (pss_one (ps_for PassesOwn.never rfl (pi_list (pe_call G3 (hr.mono (by decide)) (by rfl) m3 k3 b3 .nil pass0 (pa_cons (pv 0) (pa_cons (pv 3) pa_nil)))) (pg_tup rfl (pgs_cons (pg_name (i := 4) nd rfl (.inl rfl)) (pgs_cons (pg_name (i := 5) nd rfl (.inl rfl)) pgs_nil)))
          (pss_one (ps_expr (pe_bm PySem.F.plainAttrs_list PySem.F.slot_list_append PySem.F.type_list_append mt_append (pv 2) (pa_cons (pe_call G4 (hr.mono (by decide)) (by rfl) m4 k4 b4 .nil pass0 (pa_cons (pv 0) (pa_cons (pv 1) (pa_cons (pv 3) (pa_cons (pv 4) (pa_cons (pv 5) pa_nil)))))) pa_nil)))))))
      (pss_one (ps_ret (pv 2)))))), ?_⟩
    have ll := hO.len
    have lp := hO.pos
    have lsz : (1000 : Nat) < sizeLine := by decide
    have las : (as.map V.ref).length = rows.length := by rw [List.length_map, hP.len]
    refine ⟨_, rfl, a, as, rows, rfl, hT, hP, hO, fun H1 x1 => ⟨_, rfl, st, gap, least, rfl, hS.ex x1, small0, fun p np => ?_⟩⟩
    have x2 := x1.trans (Ex.laid (o := .lst []) x1.tab np)
    have np0 := x1.old _ np
    refine ⟨_, rfl, a, rfl, ⟨_, x2.sqL hP.lst⟩, x2.tab _ hm, fun H2 hH2 => ?_⟩
    have xt := Ex.tabbed x2.tab hm hH2
    have x3 := x2.trans xt
    have hp3 : H2 p = some (.lst []) := xt.lst upd_same
    refine max_by (w := walk_list (a := a) (xs := as.map V.ref)) (fun i => (((rows.getD i []).length : Nat) : Int)) (by omega) (fun _ H' => Ex cs H H' ∧ H' p = some (.lst [])) ⟨x3, hp3⟩ (fun i H' _ x => x.1.sqL hP.lst) (fun i v H3 H4 hi x y Z hZ => ?_) (fun m H3 x4 hex hall => ?_)
    · obtain ⟨rfl, hv⟩ := y
      obtain ⟨q, hq, rfl⟩ := get_map hv
      obtain ⟨r, hr2⟩ := getP (xs := rows) (i := i) (by omega)
      refine ⟨_, rfl, q, _, rfl, .inr (x.1.sqT (hP.row i q r hq hr2)), ?_⟩
      have z := hZ _ x
      have er : rows.getD i [] = r := by rw [List.getD_eq_getElem?_getD, hr2]; rfl
      rw [er] at z
      rw [List.length_map]
      exact z
    · obtain ⟨x4, hp4⟩ := x4
      have hmax : ∀ r ∈ rows, r.length ≤ m.toNat := fun r hr2 => by
        obtain ⟨j, hj, e⟩ := List.getElem_of_mem hr2
        have h1 := hall j (by omega)
        rw [List.getD_eq_getElem?_getD, List.getElem?_eq_getElem hj, e] at h1
        have h1' : ((r.length : Nat) : Int) ≤ m := h1
        omega
      have hm6 : m.toNat ≤ 6 := by
        obtain ⟨i, hi, e1⟩ := hex
        rw [List.getD_eq_getElem?_getD, List.getElem?_eq_getElem (by omega)] at e1
        have h2 := (hO.rows _ (List.getElem_mem (l := rows) (show i < _ by omega))).len
        have e1' : ((rows[i]'(by omega)).length : Int) = m := e1
        omega
      have hm0 : 0 ≤ m := by
        obtain ⟨i, hi, e1⟩ := hex
        rw [← e1]
        exact Int.natCast_nonneg _
      refine ⟨m, rfl, by omega, by omega, for_range (n := m.toNat) (fun i σ H' => ∃ (ts hs : List Addr) (c3 c4 c5 : Option V), σ = [some (.ref a), some (.ref st), some (.ref p), c3, c4, c5] ∧ Ex cs H H' ∧ H' p = some (.lst (ts.map V.ref)) ∧ (∀ t ∈ ts, H t = none ∧ t ≠ p) ∧ (∀ h ∈ hs, H h = none ∧ h ≠ p) ∧ DescsAt H' ts hs ((List.range i).flatMap (ofCol rows)) rows gap least)
        ⟨[], [], none, none, none, rfl, x4, hp4, fun t h => by simp at h, fun t h => by simp at h, rfl, rfl, fun i t h q h1 => by simp at h1⟩ ?_ ?_⟩
      · rintro i σ H5 hi ⟨ts, hs, c3, c4, c5, rfl, x5, hp5, ft, fh, ds⟩
        refine ⟨_, rfl, _, rfl, a, as, rows, i, by rw [Int.zero_add]; rfl, x5.tab, hP.ex x5, ll, fun r1 ts1 H6 x6 nr1 hr1 pr1 => ⟨r1, rfl, ⟨_, SqL.of hr1⟩, ?_⟩⟩
        have r1p : r1 ≠ p := fun z => by rw [z, hp5] at nr1; cases nr1
        have hl1 : (ts1.map V.ref).length = (ofCol rows i).length := by unfold ofCol; rw [List.length_map, List.length_map, pr1.len]
        refine for_list (xs := ts1.map V.ref) (fun j σ H' => ∃ (ts hs : List Addr) (c4 c5 : Option V), σ = [some (.ref a), some (.ref st), some (.ref p), some (.int (0 + (i : Nat))), c4, c5] ∧ Ex cs H H' ∧ H' r1 = some (.lst (ts1.map V.ref)) ∧ PairsAt H' ts1 (runsB rows i) ∧ H' p = some (.lst (ts.map V.ref)) ∧ (∀ t ∈ ts, H t = none ∧ t ≠ p) ∧ (∀ h ∈ hs, H h = none ∧ h ≠ p) ∧ DescsAt H' ts hs ((List.range i).flatMap (ofCol rows) ++ (ofCol rows i).take j) rows gap least)
          ⟨ts, hs, c4, c5, rfl, x5.trans x6, hr1, pr1, x6.lst hp5, ft, fh, by rw [List.take_zero, List.append_nil]; exact ds.keep fun b o e _ n => x6.ext b o e n⟩ (fun j σ H' _ ⟨_, _, _, _, _, _, q, _⟩ => SqL.of q) ?_ ?_
        · rintro j v σ H7 hv ⟨ts, hs, c4, c5, rfl, x7, hr7, pr7, hp7, ft, fh, ds⟩
          obtain ⟨t1, ht1, rfl⟩ := get_map hv
          obtain ⟨q, hq⟩ := getP (xs := runsB rows i) (i := j) (by rw [← pr7.len]; exact (List.getElem?_eq_some_iff.mp ht1).1)
          obtain ⟨f1, f2, f3⟩ := run_facts hq
          have hsz : (ts.map V.ref).length < sizeLine := by
            rw [List.length_map, ds.len, List.length_append, List.length_take]
            have q1 := flat_len (F := ofCol rows) (b := 30) (fun c => Nat.le_trans (col_len rows c) ll) i
            have q2 := col_len rows i
            have q3 : min j (ofCol rows i).length ≤ (ofCol rows i).length := Nat.min_le_right _ _
            omega
          refine ⟨t1, _, rfl, .inl (.inl (pr7.at_ j t1 q ht1 hq)), rfl, _, _, rfl, _, _, rfl, rfl, ?_⟩
          refine ⟨_, rfl, .inl ⟨rfl, _, SqL.of hp7⟩, _, rfl, _, rfl, _, rfl, _, rfl, _, rfl, a, st, as, rows, gap, least, i, q.1, q.2, by rw [Int.zero_add]; rfl, x7.tab, hP.ex x7, hO, hS.ex x7, f1, f2, f3, fun t h H8 x8 nt nh hd => ⟨p, _, .ref t, rfl, rfl, x8.lst hp7, hsz, ?_⟩⟩
          have tp : t ≠ p := fun z => by rw [z, hp7] at nt; cases nt
          have hp' : h ≠ p := fun z => by rw [z, hp7] at nh; cases nh
          have x9 := ex_new (o := .lst (ts.map V.ref ++ [.ref t])) hT (x7.trans x8) np0
          refine ⟨ts ++ [t], hs ++ [h], _, _, rfl, x9, by rw [upd_ne r1p]; exact x8.lst hr7, pr7.keep fun b xs e => ?_, by rw [upd_same, List.map_append]; rfl, fun u hu => ?_, fun u hu => ?_, ?_⟩
          · rw [upd_ne (fun z => by rw [z, hp7] at e; cases e)]; exact x8.tup e
          · rcases List.mem_append.mp hu with z | z
            · exact ft u z
            · rw [List.mem_singleton.mp z]; exact ⟨x7.old _ nt, tp⟩
          · rcases List.mem_append.mp hu with z | z
            · exact fh u z
            · rw [List.mem_singleton.mp z]; exact ⟨x7.old _ nh, hp'⟩
          · have ej : (ofCol rows i)[j]? = some (i, q.1, q.2) := by unfold ofCol; rw [List.getElem?_map, hq]; rfl
            rw [List.take_add_one, ej, ← List.append_assoc]
            refine (ds.keep fun b o e m n => ?_).snoc (q := (i, q.1, q.2)) ⟨by rw [upd_ne tp]; exact hd.1, by rw [upd_ne hp']; exact hd.2⟩
            have nb : b ≠ p := by
              rcases m with m | m
              · exact (ft b m).2
              · exact (fh b m).2
            rw [upd_ne nb]; exact x8.ext b o e n
        · rintro σ H7 ⟨ts, hs, c4, c5, rfl, x7, hr7, pr7, hp7, ft, fh, ds⟩
          refine ⟨ts, hs, _, _, _, rfl, x7, hp7, ft, fh, ?_⟩
          rw [hl1, List.take_of_length_le (Nat.le_refl _)] at ds
          rw [List.range_succ, List.flatMap_append, List.flatMap_cons, List.flatMap_nil, List.append_nil]
          exact ds
      · rintro σ H5 ⟨ts, hs, c3, c4, c5, rfl, x5, hp5, ft, fh, ds⟩
        refine ⟨_, rfl, k p ts hs H5 x5 np0 (fun t h => (ft t h).1) (fun t h => (fh t h).1) hp5 ?_⟩
        rw [cols_eq hmax hm6] at ds
        exact ds
end
end TG
namespace TG
open PySem L2 Gx
theorem cl_app (x y : Str) : cl (x ++ y) = cl x ++ cl y := TL.tl_append x y
theorem joinL_nil : ∀ l : List (List Nat), TL.joinL [] l = l.flatten
  | [] => rfl
  | [p] => by simp [TL.joinL]
  | p :: q :: r => by
    show p ++ ([] ++ TL.joinL [] (q :: r)) = _
    rw [joinL_nil (q :: r)]
    rfl
theorem cl_join (ys : List Str) : cl (Txt.join "" ys) = (ys.map cl).flatten := by
  have e : ("" : Str) = SX.S [] := by decide +kernel
  have e2 : ys = (ys.map cl).map SX.S := by
    rw [List.map_map]
    conv => lhs; rw [← List.map_id ys]
    exact List.map_congr_left fun y _ => (SX.S_tl y).symm
  rw [e]
  conv => lhs; rw [e2]
  rw [SX.join_S, joinL_nil]
theorem num_ok {n : Int} (h0 : 0 ≤ n) (h1 : n < 10 ^ 9) : (Str.ofString (toString n)).length ≤ 9 ∧ ∀ c ∈ cl (Str.ofString (toString n)), 48 ≤ c ∧ c ≤ 57 := by
  refine ⟨PyProof.Rows.toString_length_le h0 (by decide) h1, fun c hc => ?_⟩
  obtain ⟨m, rfl⟩ := Int.eq_ofNat_of_zero_le h0
  have hc' : c ∈ (Str.ofString (toString ((m : Nat) : Int))).cps.toList := hc
  rw [PySem.W.KIN.signs_num] at hc'
  obtain ⟨ch, hch, e⟩ := List.mem_map.mp hc'
  have r := PyProof.Rows.digit_range (Nat.isDigit_of_mem_toDigits (by decide) (by decide) hch)
  rw [← e]
  exact r
instance (c : Nat) : Decidable (SgOk c) := inferInstanceAs (Decidable (32 ≤ c ∧ c ≤ 126 ∧ c ≠ 37))
theorem sg_of {z : Str} (h : (z.cps.toList.all fun c => decide (SgOk c)) = true) : ∀ c ∈ cl z, SgOk c := fun c hc => of_decide_eq_true (List.all_eq_true.mp h c hc)
end TG
namespace TG
open PySem L2 Gx
abbrev everyS : Str := " !\"#$&'()*+,-./0123456789:;<=>?@ABCDEFGHIJKLMNOPQRSTUVWXYZ[\\]^_`abcdefghijklmnopqrstuvwxyz{|}~"
theorem every_ok : ∀ c ∈ cl everyS, SgOk c := sg_of (by decide +kernel)
theorem abc_len : (cl "abcdefghij").length = 10 := by decide +kernel
theorem emp_len : (Str.ofString "").length = 0 := by decide +kernel
theorem every_len : (cl everyS).length = 94 := by decide +kernel
theorem cells_ok {l : List Str} (h : (l.all fun z => decide (z.length ≤ 10) && z.cps.toList.all fun c => decide (SgOk c)) = true) : ∀ z ∈ l, CellOk z := fun z hz => by
  have q := Bool.and_eq_true_iff.mp (List.all_eq_true.mp h z hz)
  exact ⟨of_decide_eq_true q.1, sg_of q.2⟩
/-- one of a written list -/
theorem pick {α : Type} {xs : List α} {i : Int} (h0 : 0 ≤ i) (h1 : i < xs.length) : ∃ x, x ∈ xs ∧ atI xs i = some x := by
  obtain ⟨n, rfl⟩ := Int.eq_ofNat_of_zero_le h0
  have hn : n < xs.length := by have : ((n : Nat) : Int) < xs.length := h1; omega
  exact ⟨xs[n], List.getElem_mem hn, atI_nat (List.getElem?_eq_getElem hn)⟩
theorem iteB {c A B : Prop} [Decidable c] (h1 : A) (h2 : B) : if c then A else B := ite2 (fun _ => h1) fun _ => h2
theorem len_cl (z : Str) : z.length = (cl z).length := by simp [Str.length, cl]
theorem box_new {H : Hp} {b l p : Addr} {o : HO} (x : BoxAt H b l) (n : H p = none) : BoxAt (upd H p o) b l := by
  obtain ⟨ns, st, h1, h2, h3⟩ := x
  exact ⟨ns, st, by rw [upd_ne (ne_of_none h1 n)]; exact h1, by rw [upd_ne (ne_of_none h2 n)]; exact h2, h3⟩
theorem new_ne {H : Hp} {b l p : Addr} (x : BoxAt H b l) (n : H p = none) : p ≠ b ∧ p ≠ l := by
  obtain ⟨ns, st, h1, h2, h3⟩ := x
  exact ⟨(ne_of_none h1 n).symm, (ne_of_none h2 n).symm⟩
theorem box_upd {H : Hp} {b l p : Addr} {o : HO} (x : BoxAt H b l) (h1 : p ≠ b) (h2 : p ≠ l) : BoxAt (upd H p o) b l := by
  obtain ⟨ns, st, g1, g2, g3⟩ := x
  exact ⟨ns, st, by rw [upd_ne h1.symm]; exact g1, by rw [upd_ne h2.symm]; exact g2, g3⟩
theorem kb_new {H : Hp} {b l p : Addr} {o : HO} (n : H p = none) : KB b l H (upd H p o) := fun c u e _ _ => by rw [upd_ne (ne_of_none e n)]; exact e
theorem kb_upd {H H' : Hp} {b l p : Addr} {o : HO} (x : KB b l H H') (n : H p = none) : KB b l H (upd H' p o) := fun c u e h1 h2 => by rw [upd_ne (ne_of_none e n)]; exact x c u e h1 h2
theorem atI_map {α β : Type} {f : α → β} {xs : List α} {i : Int} {x : α} (h : atI xs i = some x) : atI (xs.map f) i = some (f x) := by
  unfold atI at h ⊢
  rw [List.length_map]
  cases e : ixN xs.length i with
  | none => rw [e] at h; cases h
  | some j =>
    rw [e] at h
    have h' : xs[j]? = some x := h
    show (xs.map f)[j]? = some (f x)
    rw [List.getElem?_map, h']
    rfl
/-- a list of single signs at D -/
structure OnesAt (b l : Addr) (H : Hp) (D : Addr) (i : Nat) (H' : Hp) : Prop where
  box : BoxAt H' b l
  keep : KB b l H H'
  nD : H D = none
  db : D ≠ b
  dl : D ≠ l
  ones : ∃ cs : List Nat, cs.length = i ∧ (∀ c ∈ cs, SgOk c) ∧ H' D = some (.lst (sV (cs.map fun c => ⟨#[c]⟩)))
theorem OnesAt.start {b l : Addr} {H H1 : Hp} {D : Addr} (hB : BoxAt H1 b l) (x : KB b l H H1) (n : H1 D = none) (nb : BoxAt H b l) : OnesAt b l H D 0 (upd H1 D (.lst [])) := by
  obtain ⟨d1, d2⟩ := new_ne hB n
  have nD : H D = none := by
    cases e : H D with
    | none => rfl
    | some o => rw [x D o e d1 d2] at n; cases n
  exact ⟨box_new hB n, kb_upd x nD, nD, d1, d2, [], rfl, fun c h => by simp at h, upd_same⟩
theorem OnesAt.more {b l : Addr} {H H1 H2 : Hp} {D : Addr} {i c : Nat} (o : OnesAt b l H D i H1) (hc : SgOk c) (hB : BoxAt H2 b l) (x : KB b l H1 H2) :
    ∃ acc, H2 D = some (.lst acc) ∧ acc.length = i ∧ OnesAt b l H D (i + 1) (upd H2 D (.lst (acc ++ [.str ⟨#[c]⟩]))) := by
  obtain ⟨cs, h1, h2, h3⟩ := o.ones
  refine ⟨_, x D _ h3 o.db o.dl, by rw [List.length_map, List.length_map, h1], box_upd hB o.db o.dl, kb_upd (o.keep.trans x) o.nD, o.nD, o.db, o.dl, cs ++ [c], by rw [List.length_append, h1]; rfl, fun d hd => ?_, ?_⟩
  · rcases List.mem_append.mp hd with h | h
    · exact h2 d h
    · rw [List.mem_singleton.mp h]; exact hc
  · rw [upd_same]
    simp [sV]
theorem OnesAt.done {b l : Addr} {H H1 : Hp} {D : Addr} {i : Nat} (o : OnesAt b l H D i H1) : ∃ ys : List Str, H1 D = some (.lst (ys.map V.str)) ∧ ys.length = i ∧ (ys.map fun y => y.length).sum = i ∧ (i ≤ 10 → CellOk (Txt.join "" ys)) := by
  obtain ⟨cs, h1, h2, h3⟩ := o.ones
  refine ⟨_, h3, by rw [List.length_map, h1], ?_, fun hi => ?_⟩
  · rw [← h1]
    clear h1 h2 h3
    induction cs with
    | nil => rfl
    | cons c cs ih =>
      rw [List.map_cons, List.map_cons, List.sum_cons, ih, List.length_cons]
      show 1 + cs.length = cs.length + 1
      omega
  · have e : cl (Txt.join "" (cs.map fun c => (⟨#[c]⟩ : Str))) = cs := by
      rw [cl_join, List.map_map]
      clear h1 h2 h3
      induction cs with
      | nil => rfl
      | cons c cs ih =>
        rw [List.map_cons, List.flatten_cons, ih]
        rfl
    exact ⟨by rw [len_cl, e, h1]; exact hi, fun c hc => h2 c (by have hc : c ∈ cl _ := hc; rw [e] at hc; exact hc)⟩
abbrev oddL : List Str := ["-", "--1", "1-", "0x", " 1", "1 ", "-0", "007", " ", "   ", "1234567x", "12345678-", "-0000000 1"]
theorem odd_ok : ∀ z ∈ oddL, CellOk z := cells_ok (by decide +kernel)
section
variable {P : Program} {w : World} {K : PySem.W.Frag} {mg : Str → Option Value} {base : Heap} {cs : List (Addr × Addr)}
def spSign : Sp := fun vs H Q _ => ∃ (b l : Addr), vs = [.ref b] ∧ BoxAt H b l ∧ ∀ (c : Nat) (H' : Hp), SgOk c → BoxAt H' b l → KB b l H H' → Q (.str ⟨#[c]⟩) H'
theorem sc_sign : FnScope ["_law_box", "_law_every"] ["_law_box"] (defScope s_sign) := ⟨rfl, rfl, rfl, by decide +kernel, rfl, by decide +kernel, by decide +kernel⟩
theorem ok_sign {f g : Addr} {fd fdg : FuncData} (F : Fun K "_law_sign" "_law_sign" s_sign f fd)
    (G : FnOk P w K mg base CX0 1 g fdg ["_law_box", "_law_many"] spTake) (kp : PySem.W.keepIn K (.ref g) = true) (bd : Binds K fdg ["_law_box", "_law_many"] []) (mgg : mg "_law_take" = some (.ref g)) : FnOk P w K mg base CX0 2 f fd ["_law_box"] spSign := by
  refine F.ok sc_sign (fun vs H Q E h => ?_) (fun cdv A outer s H vs Q E hr h => ?_)
  · obtain ⟨b, l, rfl, _⟩ := h
    rfl
  · obtain ⟨b, l, rfl, hB, k⟩ := h
    have nd := sc_sign.nd
    refine ⟨_, pss_cons (ps_set (i := 1) nd rfl (.inl rfl) pe_str) (pss_one (ps_ret (pe_ix ix_str (pv 1) (pe_call G hr (by rfl) mgg kp bd .nil pass0 (pa_cons (pv 0) (pa_cons pe_int pa_nil))) (fun _ _ => rfl)))), ?_⟩
    refine ⟨_, rfl, _, rfl, b, l, 94, rfl, hB, by decide, by decide, fun r H1 r0 r1 hB1 x1 => ?_⟩
    obtain ⟨c, hc, e⟩ := pick (xs := cl everyS) r0 (by rw [every_len]; exact r1)
    exact ⟨everyS, r, c, rfl, rfl, line10 (by decide +kernel), e, k c H1 (every_ok c hc) hB1 x1⟩
def spCell : Sp := fun vs H Q _ => ∃ (b l : Addr) (sort : Int), vs = [.ref b, .int sort] ∧ BoxAt H b l ∧ ∀ (z : Str) (H' : Hp), CellOk z → BoxAt H' b l → KB b l H H' → Q (.str z) H'
theorem sc_cell : FnScope ["_law_box", "_law_sort", "_law_way", "_law_odd", "_law_many", "_law_k"] ["_law_box", "_law_sort"] (defScope s_cell) := ⟨rfl, rfl, rfl, by decide +kernel, rfl, by decide +kernel, by decide +kernel⟩
abbrev nmCell : List Str := ["_law_box", "_law_sort", "_law_way", "_law_odd", "_law_many", "_law_k"]
theorem ok_cell {f g g2 : Addr} {fd fdg fd2 : FuncData} (T : Txt mg) (F : Fun K "_law_cell" "_law_cell" s_cell f fd)
    (G : FnOk P w K mg base CX0 1 g fdg ["_law_box", "_law_many"] spTake) (kp : PySem.W.keepIn K (.ref g) = true) (bd : Binds K fdg ["_law_box", "_law_many"] []) (mgg : mg "_law_take" = some (.ref g))
    (G2 : FnOk P w K mg base CX0 2 g2 fd2 ["_law_box"] spSign) (kp2 : PySem.W.keepIn K (.ref g2) = true) (bd2 : Binds K fd2 ["_law_box"] []) (mg2 : mg "_law_sign" = some (.ref g2)) : FnOk P w K mg base CX0 3 f fd ["_law_box", "_law_sort"] spCell := by
  refine F.ok sc_cell (fun vs H Q E h => ?_) (fun cdv A outer s H vs Q E hr h => ?_)
  · obtain ⟨b, l, sort, rfl, _⟩ := h
    rfl
  · obtain ⟨b, l, sort, rfl, hB, k⟩ := h
    have nd := sc_cell.nd
    have hr1 : Room 1 _ := hr.mono (by decide)
    refine ⟨_, pss_cons (ps_set (i := 2) nd rfl (.inl rfl) (pe_call G hr1 (by rfl) mgg kp bd .nil pass0 (pa_cons (pv 0) (pa_cons pe_int pa_nil))))
      (pss_cons (ps_if (pt_cmpR op_eq (pv 2) pe_int (nomark _)) (pss_one (ps_ret pe_str)) pss_nil)
      (pss_cons (ps_if (PW.pt (pw_or (pt_cmpR op_eq (pv 2) pe_int (nomark _)) (pw_or1 (PW.pt (pw_and (pt_cmpR op_eq (pv 1) pe_int (nomark _)) (pw_and1 (pt_cmpR op_lt (pv 2) pe_int (nomark _)))))))) (pss_one (ps_ret (pe_op op_add_str (pe_ix ix_list (pe_lst (pa_cons pe_str (pa_cons pe_str pa_nil))) (pe_op op_fdivN (pe_call G hr1 (by rfl) mgg kp bd .nil pass0 (pa_cons (pv 0) (pa_cons pe_int pa_nil))) pe_int) (fun _ _ => rfl)) (pe_callTy call_str_int (by rfl) T.str (by decide +kernel) (pa_cons (pe_call G hr1 (by rfl) mgg kp bd .nil pass0 (pa_cons (pv 0) (pa_cons (pe_ix ix_list (pe_lst (pa_cons pe_int (pa_cons pe_int (pa_cons (pe_op op_pow pe_int pe_int) pa_nil)))) (pe_call G hr1 (by rfl) mgg kp bd .nil pass0 (pa_cons (pv 0) (pa_cons pe_int pa_nil))) (fun _ _ => rfl)) pa_nil))) pa_nil))))) pss_nil)
      (pss_cons (ps_if (pt_cmpR op_eq (pv 2) pe_int (nomark _)) (pss_cons (ps_set (i := 3) nd rfl (.inl rfl) (pe_lst (pa_cons pe_str (pa_cons pe_str (pa_cons pe_str (pa_cons pe_str (pa_cons pe_str (pa_cons pe_str (pa_cons pe_str (pa_cons pe_str (pa_cons pe_str (pa_cons pe_str (pa_cons pe_str (pa_cons pe_str (pa_cons pe_str pa_nil))))))))))))))) (pss_one (ps_ret (pe_ix ix_list (pv 3) (pe_call G hr1 (by rfl) mgg kp bd .nil pass0 (pa_cons (pv 0) (pa_cons pe_int pa_nil))) (fun _ _ => rfl))))) pss_nil)
      (pss_cons (ps_set (i := 4) nd rfl (.inl rfl) (pe_op op_add pe_int (pe_call G hr1 (by rfl) mgg kp bd .nil pass0 (pa_cons (pv 0) (pa_cons (pe_ix ix_list (pe_lst (pa_cons pe_int (pa_cons pe_int pa_nil))) (pe_call G hr1 (by rfl) mgg kp bd .nil pass0 (pa_cons (pv 0) (pa_cons pe_int pa_nil))) (fun _ _ => rfl)) pa_nil)))))
      (pss_cons (ps_if (pt_cmpR op_lt (pv 2) pe_int (nomark _)) (pss_one (ps_ret (pe_join pe_str (pe_lc (own := [("_law_k", 5)]) (g := gName 5) (tt := tYes) rfl nd (pi_range1 (by rfl) T.range (pa_cons (pv 4) pa_nil)) (blkOk_by (own := [("_law_k", 5)]) (N := nmCell) (sc := defScope s_cell) (by decide +kernel)) (fun _ _ _ _ _ => pg_name (i := 5) nd rfl (Or.inl rfl)) (fun _ _ _ _ _ => pts_nil) (fun s1 H1 C1 cl1 fp1 => pe_ix ix_str pe_str (pe_call G hr1 (by rfl) mgg kp bd .nil pass0 (pa_cons (pv 0) (pa_cons pe_int pa_nil))) (fun _ _ => rfl)))))) pss_nil)
      (pss_one (ps_ret (pe_join pe_str (pe_lc (own := [("_law_k", 5)]) (g := gName 5) (tt := tYes) rfl nd (pi_range1 (by rfl) T.range (pa_cons (pv 4) pa_nil)) (blkOk_by (own := [("_law_k", 5)]) (N := nmCell) (sc := defScope s_cell) (by decide +kernel)) (fun _ _ _ _ _ => pg_name (i := 5) nd rfl (Or.inl rfl)) (fun _ _ _ _ _ => pts_nil) (fun s1 H1 C1 cl1 fp1 => pe_call G2 hr (by rfl) mg2 kp2 bd2 .nil pass0 (pa_cons (pv 0) pa_nil))))))))))), ?_⟩
    have szl : (1000 : Nat) < sizeLine := by decide
    refine ⟨_, rfl, b, l, 9, rfl, hB, by decide, by decide, fun way H1 w0 w1 hB1 x1 => ⟨_, rfl, rfl, _, rfl, iteB ?_ ?_⟩⟩
    · exact k _ H1 ⟨by decide +kernel, sg_of (by decide +kernel)⟩ hB1 x1
    refine ⟨_, rfl, rfl, _, rfl, iteB (iteT ?body) ⟨_, rfl, rfl, _, rfl, iteB ⟨_, rfl, _, _, rfl, rfl, _, rfl, iteB ?body ?rest⟩ (iteF ?rest)⟩⟩
    case body =>
      refine ⟨line10 (by decide), fun p np => ⟨_, rfl, b, l, 3, rfl, box_new hB1 np, by decide, by decide, fun r H2 r0 r1 hB2 x2 => ⟨r, 2, rfl, rfl, ⟨by decide, by decide⟩, ?_⟩⟩⟩
      have y2 := (x1.trans (kb_new np)).trans x2
      have e2 : r.fdiv 2 = r / 2 := Int.fdiv_eq_ediv_of_nonneg r (by decide)
      obtain ⟨v, hv, ev⟩ := pick (xs := [(⟨#[]⟩ : Str), ⟨#[45]⟩]) (i := r.fdiv 2) (by omega) (by show r.fdiv 2 < 2; omega)
      obtain ⟨nb, nl⟩ := new_ne hB1 np
      have l1 : ([("" : Str), "-"] : List Str) = [⟨#[]⟩, ⟨#[45]⟩] := by decide +kernel
      have hp2 : H2 p = some (.lst (sV [("" : Str), "-"])) := x2 p _ upd_same nb nl
      refine ⟨p, _, _, .str v, rfl, rfl, SqL.of hp2, by rw [l1]; exact atI_map ev, ?_⟩
      refine ⟨_, rfl, 10, 9, rfl, rfl, ⟨by decide, by decide, by decide⟩, line10 (by decide), fun p2 np2 => ⟨_, rfl, b, l, 3, rfl, box_new hB2 np2, by decide, by decide, fun r2 H4 s0 s1 hB4 x4 => ?_⟩⟩
      obtain ⟨nb2, nl2⟩ := new_ne hB2 np2
      have y4 := (y2.trans (kb_new np2)).trans x4
      have hp4 := x4 p2 _ upd_same nb2 nl2
      obtain ⟨m, hm, em⟩ := pick (xs := [(10 : Int), 1000, 1000000000]) (i := r2) s0 s1
      have hm2 : 0 < m ∧ m ≤ 1000000000 := by
        simp only [List.mem_cons, List.not_mem_nil, or_false] at hm
        omega
      refine ⟨p2, _, _, .int m, rfl, rfl, SqL.of hp4, atI_map (f := V.int) em, b, l, m, rfl, hB4, hm2.1, by omega, fun n H5 n0 n1 hB5 x5 => ⟨n, rfl, ?_, v, _, rfl, rfl, ?_, ?_⟩⟩
      · by_cases hz : n.natAbs = 0
        · rw [hz]; decide
        · refine Nat.lt_of_lt_of_le ((Nat.log2_lt hz).mpr (show n.natAbs < 2 ^ 30 by omega)) (by decide)
      · have h9 := (num_ok n0 (by omega)).1
        have hv1 : v.length ≤ 1 := by
          simp only [List.mem_cons, List.not_mem_nil, or_false] at hv
          rcases hv with rfl | rfl <;> decide
        omega
      · obtain ⟨h9, hd9⟩ := num_ok n0 (by omega)
        have hv1 : v.length ≤ 1 ∧ ∀ c ∈ cl v, SgOk c := by
          simp only [List.mem_cons, List.not_mem_nil, or_false] at hv
          rcases hv with rfl | rfl <;> exact ⟨by decide, sg_of (by decide)⟩
        refine k _ H5 ⟨?_, fun c hc => ?_⟩ hB5 (y4.trans x5)
        · rw [len_cl, cl_app, List.length_append, ← len_cl, ← len_cl]; omega
        · have hc : c ∈ cl (v ++ _) := hc
          rw [cl_app] at hc
          rcases List.mem_append.mp hc with h | h
          · exact hv1.2 c h
          · have := hd9 c h
            unfold SgOk
            omega
    case rest =>
    refine ⟨_, rfl, rfl, _, rfl, iteB ?_ ?_⟩
    · refine ⟨line10 (by decide), fun p np => ⟨_, rfl, _, rfl, b, l, 13, rfl, box_new hB1 np, by decide, by decide, fun r H2 r0 r1 hB2 x2 => ?_⟩⟩
      obtain ⟨nb, nl⟩ := new_ne hB1 np
      have hp2 : H2 p = some (.lst (sV oddL)) := x2 p _ upd_same nb nl
      obtain ⟨v, hv, ev⟩ := pick (xs := oddL) (i := r) r0 r1
      exact ⟨p, _, _, .str v, rfl, rfl, SqL.of hp2, atI_map ev, k v H2 (odd_ok v hv) hB2 ((x1.trans (kb_new np)).trans x2)⟩
    refine ⟨_, rfl, line10 (by decide), fun p np => ⟨_, rfl, b, l, 2, rfl, box_new hB1 np, by decide, by decide, fun r H2 r0 r1 hB2 x2 => ?_⟩⟩
    obtain ⟨nb, nl⟩ := new_ne hB1 np
    have hp2 := x2 p _ upd_same nb nl
    have y2 := (x1.trans (kb_new np)).trans x2
    obtain ⟨m, hm, em⟩ := pick (xs := [(3 : Int), 10]) (i := r) r0 r1
    have hm2 : 0 < m ∧ m ≤ 10 := by
      simp only [List.mem_cons, List.not_mem_nil, or_false] at hm
      omega
    refine ⟨p, _, _, .int m, rfl, rfl, SqL.of hp2, atI_map (f := V.int) em, b, l, m, rfl, hB2, hm2.1, by omega, fun n H3 n0 n1 hB3 x3 => ⟨1, n, rfl, rfl, ?_⟩⟩
    have y3 := y2.trans x3
    refine ⟨_, rfl, _, _, rfl, rfl, _, rfl, iteB ?_ ?_⟩
    · refine ⟨⟨_, rfl⟩, _, rfl, 1 + n, rfl, by omega, by omega, fun D nD => lc_range (n := (1 + n).toNat) (fun i H' => OnesAt b l H D i H') ?_ ?_ ?_⟩
      · exact OnesAt.start hB3 y3 nD hB
      · rintro i H4 hi o
        refine ⟨rfl, _, rfl, b, l, 10, rfl, o.box, by decide, by decide, fun r4 H5 a0 a1 hB5 x5 => ?_⟩
        obtain ⟨c, hc, ec⟩ := pick (xs := cl "abcdefghij") (i := r4) a0 (by rw [abc_len]; exact a1)
        obtain ⟨acc, hacc, hl, o2⟩ := o.more (c := c) (sg_of (z := "abcdefghij") (by decide +kernel) c hc) hB5 x5
        exact ⟨_, r4, c, rfl, rfl, line10 (by decide +kernel), ec, acc, hacc, by omega, o2⟩
      · rintro H4 o
        obtain ⟨ys, hD, h1, h2, h3⟩ := o.done
        exact ⟨_, D, ys, rfl, rfl, .inl (SqL.of hD), by rw [h2, emp_len]; omega, k _ H4 (h3 (by omega)) o.box o.keep⟩
    · refine ⟨⟨_, rfl⟩, _, rfl, 1 + n, rfl, by omega, by omega, fun D nD => lc_range (n := (1 + n).toNat) (fun i H' => OnesAt b l H D i H') ?_ ?_ ?_⟩
      · exact OnesAt.start hB3 y3 nD hB
      · rintro i H4 hi o
        refine ⟨rfl, _, rfl, b, l, rfl, o.box, fun c H5 hc hB5 x5 => ?_⟩
        obtain ⟨acc, hacc, hl, o2⟩ := o.more (c := c) hc hB5 x5
        exact ⟨acc, hacc, by omega, o2⟩
      · rintro H4 o
        obtain ⟨ys, hD, h1, h2, h3⟩ := o.done
        exact ⟨_, D, ys, rfl, rfl, .inl (SqL.of hD), by rw [h2, emp_len]; omega, k _ H4 (h3 (by omega)) o.box o.keep⟩
end
end TG
namespace TG
open PySem L2 Gx
theorem new_old {b l p : Addr} {H H1 : Hp} (x : KB b l H H1) (hB : BoxAt H1 b l) (n : H1 p = none) : H p = none := by
  obtain ⟨d1, d2⟩ := new_ne hB n
  cases e : H p with
  | none => rfl
  | some o => rw [x p o e d1 d2] at n; cases n
/-- a list of cells at D -/
structure StrsAt (b l : Addr) (H : Hp) (D : Addr) (i : Nat) (H' : Hp) : Prop where
  box : BoxAt H' b l
  keep : KB b l H H'
  nD : H D = none
  db : D ≠ b
  dl : D ≠ l
  zsat : ∃ zs : List Str, zs.length = i ∧ (∀ z ∈ zs, CellOk z) ∧ H' D = some (.lst (sV zs))
theorem StrsAt.start {b l : Addr} {H H1 : Hp} {D : Addr} (hB : BoxAt H1 b l) (x : KB b l H H1) (n : H1 D = none) : StrsAt b l H D 0 (upd H1 D (.lst [])) := by
  obtain ⟨d1, d2⟩ := new_ne hB n
  have nD := new_old x hB n
  exact ⟨box_new hB n, kb_upd x nD, nD, d1, d2, [], rfl, fun c h => by simp at h, upd_same⟩
theorem StrsAt.more {b l : Addr} {H H1 H2 : Hp} {D : Addr} {i : Nat} {z : Str} (o : StrsAt b l H D i H1) (hc : CellOk z) (hB : BoxAt H2 b l) (x : KB b l H1 H2) :
    ∃ acc, H2 D = some (.lst acc) ∧ acc.length = i ∧ StrsAt b l H D (i + 1) (upd H2 D (.lst (acc ++ [.str z]))) := by
  obtain ⟨zs, h1, h2, h3⟩ := o.zsat
  refine ⟨_, x D _ h3 o.db o.dl, by rw [List.length_map, h1], box_upd hB o.db o.dl, kb_upd (o.keep.trans x) o.nD, o.nD, o.db, o.dl, zs ++ [z], by rw [List.length_append, h1]; rfl, fun d hd => ?_, ?_⟩
  · rcases List.mem_append.mp hd with h | h
    · exact h2 d h
    · rw [List.mem_singleton.mp h]; exact hc
  · rw [upd_same]
    simp [sV]
/-- a list of numbers at D, below m -/
structure IntsAt (b l : Addr) (H : Hp) (D : Addr) (i : Nat) (H' : Hp) : Prop where
  box : BoxAt H' b l
  keep : KB b l H H'
  nD : H D = none
  db : D ≠ b
  dl : D ≠ l
  isat : ∃ zs : List Int, zs.length = i ∧ H' D = some (.lst (zs.map V.int))
theorem IntsAt.start {b l : Addr} {H H1 : Hp} {D : Addr} (hB : BoxAt H1 b l) (x : KB b l H H1) (n : H1 D = none) : IntsAt b l H D 0 (upd H1 D (.lst [])) := by
  obtain ⟨d1, d2⟩ := new_ne hB n
  have nD := new_old x hB n
  exact ⟨box_new hB n, kb_upd x nD, nD, d1, d2, [], rfl, upd_same⟩
theorem IntsAt.more {b l : Addr} {H H1 H2 : Hp} {D : Addr} {i : Nat} {z : Int} (o : IntsAt b l H D i H1) (hB : BoxAt H2 b l) (x : KB b l H1 H2) :
    ∃ acc, H2 D = some (.lst acc) ∧ acc.length = i ∧ IntsAt b l H D (i + 1) (upd H2 D (.lst (acc ++ [.int z]))) := by
  obtain ⟨zs, h1, h3⟩ := o.isat
  refine ⟨_, x D _ h3 o.db o.dl, by rw [List.length_map, h1], box_upd hB o.db o.dl, kb_upd (o.keep.trans x) o.nD, o.nD, o.db, o.dl, zs ++ [z], by rw [List.length_append, h1]; rfl, ?_⟩
  rw [upd_same]
  simp
theorem ixm1 {n : Nat} : ixN (n + 1) (-1) = some n := by
  unfold ixN
  rw [if_neg (by decide), if_pos (by omega)]
  congr 1
  omega
theorem atm1 {α : Type} {xs : List α} {n : Nat} {v : α} (hl : xs.length = n + 1) (h : xs[n]? = some v) : atI xs (-1) = some v := by
  unfold atI
  rw [hl, ixm1]
  exact h
/-- rows' tuples -/
def RowsP (H : Hp) (as : List Addr) : Prop := ∀ p ∈ as, ∃ r, H p = some (.tup (sV r)) ∧ RowOk r
theorem RowsP.keep {H H' : Hp} {as : List Addr} (x : RowsP H as) (k : ∀ p xs, H p = some (.tup xs) → H' p = some (.tup xs)) : RowsP H' as := fun p hp => by
  obtain ⟨r, h1, h2⟩ := x p hp
  exact ⟨r, k _ _ h1, h2⟩
theorem RowsP.page {H : Hp} : ∀ {as : List Addr}, RowsP H as → ∃ rows : List (List Str), as.length = rows.length ∧ (∀ (i : Nat) (p : Addr) (r : List Str), as[i]? = some p → rows[i]? = some r → H p = some (.tup (sV r))) ∧ ∀ r ∈ rows, RowOk r
  | [], _ => ⟨[], rfl, fun i p r h => by simp at h, fun r h => by simp at h⟩
  | a :: as, x => by
    obtain ⟨rows, h1, h2, h3⟩ := RowsP.page (as := as) fun p hp => x p (List.mem_cons_of_mem _ hp)
    obtain ⟨r, g1, g2⟩ := x a List.mem_cons_self
    refine ⟨r :: rows, by rw [List.length_cons, List.length_cons, h1], fun i p q e1 e2 => ?_, fun q hq => ?_⟩
    · cases i with
      | zero => cases e1; cases e2; exact g1
      | succ i => exact h2 i p q (by simpa using e1) (by simpa using e2)
    · rcases List.mem_cons.mp hq with z | z
      · rw [z]; exact g2
      · exact h3 q z
theorem kb_tup {b l : Addr} {H H' : Hp} (x : KB b l H H') (hB : BoxAt H b l) : ∀ p xs, H p = some (.tup xs) → H' p = some (.tup xs) := fun p xs h => by
  obtain ⟨ns, st, h1, h2, _⟩ := hB
  exact x p _ h (ne_of h h1 fun z => by cases z) (ne_of h h2 fun z => by cases z)
section
variable {P : Program} {w : World} {K : PySem.W.Frag} {mg : Str → Option Value} {base : Heap} {cs : List (Addr × Addr)}
def spRowD : Sp := fun vs H Q _ => ∃ (b l sr : Addr) (ss : List Int) (m : Int), vs = [.ref b, .ref sr, .int m] ∧ BoxAt H b l ∧ H sr = some (.lst (ss.map V.int)) ∧ ss.length = 6 ∧ sr ≠ b ∧ sr ≠ l ∧ 1 ≤ m ∧ m ≤ 6 ∧
  ∀ (p : Addr) (r : List Str) (H' : Hp), BoxAt H' b l → KB b l H H' → H p = none → H' p = some (.tup (sV r)) → RowOk r → Q (.ref p) H'
abbrev nmRow : List Str := ["_law_box", "_law_sorts", "_law_many", "_law_k"]
theorem sc_lrow : FnScope nmRow ["_law_box", "_law_sorts", "_law_many"] (defScope s_row) := ⟨rfl, rfl, rfl, by decide +kernel, rfl, by decide +kernel, by decide +kernel⟩
theorem ok_lrow {f g : Addr} {fd fdg : FuncData} (T : Txt mg) (F : Fun K "_law_row" "_law_row" s_row f fd)
    (G : FnOk P w K mg base CX0 3 g fdg ["_law_box", "_law_sort"] spCell) (kp : PySem.W.keepIn K (.ref g) = true) (bd : Binds K fdg ["_law_box", "_law_sort"] []) (mgg : mg "_law_cell" = some (.ref g)) : FnOk P w K mg base CX0 4 f fd ["_law_box", "_law_sorts", "_law_many"] spRowD := by
  refine F.ok sc_lrow (fun vs H Q E h => ?_) (fun cdv A outer s H vs Q E hr h => ?_)
  · obtain ⟨b, l, sr, ss, m, rfl, _⟩ := h
    rfl
  · obtain ⟨b, l, sr, ss, m, rfl, hB, hs, h6, sb, sl, m1, m6, k⟩ := h
    have nd := sc_lrow.nd
    have szl : (1000 : Nat) < sizeLine := by decide
    refine ⟨_, pss_one (ps_ret (pe_callTy call_tuple_of (by rfl) T.tuple (by decide +kernel) (pa_cons (pe_lc (own := [("_law_k", 3)]) (g := gName 3) (tt := tYes) rfl nd (pi_range1 (by rfl) T.range (pa_cons (pv 2) pa_nil)) (blkOk_by (own := [("_law_k", 3)]) (N := nmRow) (sc := defScope s_row) (by decide +kernel))
          (fun _ _ _ _ _ => pg_name (i := 3) nd rfl (Or.inl rfl)) (fun _ _ _ _ _ => pts_nil) (fun s1 H1 C1 cl1 fp1 => pe_call G hr (by rfl) mgg kp bd .nil pass0 (pa_cons (pv 0) (pa_cons (pe_ix (r := rIxL K) ix_list (pv 1) (pv 3) (fun _ _ => rfl)) pa_nil)))) pa_nil))), ?_⟩
    refine ⟨_, rfl, m, rfl, by omega, by omega, fun D nD => lc_range (n := m.toNat) (fun i H' => StrsAt b l H D i H') (StrsAt.start hB KB.refl nD) ?_ ?_⟩
    · rintro i H1 hi o
      obtain ⟨sv, hsv⟩ := getP (xs := ss) (i := i) (by omega)
      have hs1 := o.keep sr _ hs sb sl
      refine ⟨rfl, _, rfl, _, rfl, _, rfl, sr, _, _, .int sv, rfl, rfl, SqL.of hs1, by rw [Int.zero_add]; exact atI_nat (by rw [List.getElem?_map, hsv]; rfl), b, l, sv, rfl, o.box, fun z H2 hz hB2 x2 => ?_⟩
      obtain ⟨acc, hacc, hl, o2⟩ := o.more hz hB2 x2
      exact ⟨acc, hacc, by omega, o2⟩
    · rintro H1 o
      obtain ⟨zs, h1, h2, h3⟩ := o.zsat
      refine ⟨D, _, rfl, .inl ⟨SqL.of h3, fun p np => k p zs _ (box_new o.box np) (o.keep.trans (kb_new np)) (new_old o.keep o.box np) upd_same ⟨by omega, by omega, h2⟩⟩⟩
def spPageD : Sp := fun vs H Q _ => ∃ (b l : Addr) (m : Int), vs = [.ref b, .int m] ∧ BoxAt H b l ∧ 1 ≤ m ∧ m ≤ 30 ∧
  ∀ (p : Addr) (as : List Addr) (rows : List (List Str)) (H' : Hp), BoxAt H' b l → KB b l H H' → H p = none → p ≠ b → p ≠ l → H' p = some (.lst (as.map V.ref)) → as.length = rows.length → (∀ (i : Nat) (q : Addr) (r : List Str), as[i]? = some q → rows[i]? = some r → H' q = some (.tup (sV r))) → PgOk rows → Q (.ref p) H'
abbrev nmPage : List Str := ["_law_box", "_law_most", "_law_sorts", "_law_many", "_law_rows", "_law_turn", "_law_way", "_law_k"]
theorem sc_lpage : FnScope nmPage ["_law_box", "_law_most"] (defScope s_page) := ⟨rfl, rfl, rfl, by decide +kernel, rfl, by decide +kernel, by decide +kernel⟩
theorem ok_lpage {f g g2 : Addr} {fd fdg fd2 : FuncData} (T : Txt mg) (F : Fun K "_law_page" "_law_page" s_page f fd)
    (G : FnOk P w K mg base CX0 1 g fdg ["_law_box", "_law_many"] spTake) (kp : PySem.W.keepIn K (.ref g) = true) (bd : Binds K fdg ["_law_box", "_law_many"] []) (mgg : mg "_law_take" = some (.ref g))
    (G2 : FnOk P w K mg base CX0 4 g2 fd2 ["_law_box", "_law_sorts", "_law_many"] spRowD) (kp2 : PySem.W.keepIn K (.ref g2) = true) (bd2 : Binds K fd2 ["_law_box", "_law_sorts", "_law_many"] []) (mg2 : mg "_law_row" = some (.ref g2)) : FnOk P w K mg base CX0 5 f fd ["_law_box", "_law_most"] spPageD := by
  refine F.ok sc_lpage (fun vs H Q E h => ?_) (fun cdv A outer s H vs Q E hr h => ?_)
  · obtain ⟨b, l, m, rfl, _⟩ := h
    rfl
  · obtain ⟨b, l, m, rfl, hB, m1, m30, k⟩ := h
    have nd := sc_lpage.nd
    have szl : (1000 : Nat) < sizeLine := by decide
    have hr1 : Room 1 _ := hr.mono (by decide)
    refine ⟨_, pss_cons (ps_setLc (i := 2) (own := [("_law_k", 7)]) (g := gName 7) rfl nd rfl rfl (sw_true rfl rfl rfl (by decide +kernel)) (pi_range1 (by rfl) T.range (pa_cons pe_int pa_nil)) (blkOk_by (own := [("_law_k", 7)]) (N := nmPage) (sc := defScope s_page) (by decide +kernel))
          (fun _ _ _ _ _ => pg_name (i := 7) nd rfl (Or.inl rfl)) (fun _ _ _ _ _ => pts_nil) (fun s1 H1 C1 cl1 fp1 => pe_call G hr1 (by rfl) mgg kp bd .nil pass0 (pa_cons (pv 0) (pa_cons pe_int pa_nil))))
      (pss_cons (ps_par (i := 3) (j := 4) rfl nd rfl rfl (by decide) rfl rfl (pa_cons (pe_op op_add pe_int (pe_call G hr1 (by rfl) mgg kp bd .nil pass0 (pa_cons (pv 0) (pa_cons pe_int pa_nil)))) (pa_cons (pe_lst pa_nil) pa_nil)) (by rfl))
      (pss_cons (ps_for PassesOwn.never rfl (pi_range1 (by rfl) T.range (pa_cons (pe_op op_add pe_int (pe_call G hr1 (by rfl) mgg kp bd .nil pass0 (pa_cons (pv 0) (pa_cons (pv 1) pa_nil)))) pa_nil)) (pg_name (i := 5) nd rfl (.inl rfl))
        (pss_cons (ps_set (i := 6) nd rfl (.inl rfl) (pe_call G hr1 (by rfl) mgg kp bd .nil pass0 (pa_cons (pv 0) (pa_cons pe_int pa_nil))))
        (pss_cons (ps_set (i := 3) nd rfl (.inl rfl) (pe_ix ix_list (pe_lst (pa_cons (pe_op op_add pe_int (pe_call G hr1 (by rfl) mgg kp bd .nil pass0 (pa_cons (pv 0) (pa_cons pe_int pa_nil)))) (pa_cons (pe_callB (call_max2 rfl) (by rfl) T.max (by decide +kernel) (pa_cons pe_int (pa_cons (pe_op op_sub (pv 3) pe_int) pa_nil)))
            (pa_cons (pe_callB (call_min2 rfl) (by rfl) T.min (by decide +kernel) (pa_cons pe_int (pa_cons (pe_op op_add (pv 3) pe_int) pa_nil))) (pa_cons (pv 3) pa_nil))))) (pe_callB (call_min2 rfl) (by rfl) T.min (by decide +kernel) (pa_cons (pv 6) (pa_cons pe_int pa_nil))) (fun _ _ => rfl)))
        (pss_cons (ps_expr (pe_bm PySem.F.plainAttrs_list PySem.F.slot_list_append PySem.F.type_list_append mt_append (pv 4) (pa_cons (pe_call G2 hr (by rfl) mg2 kp2 bd2 .nil pass0 (pa_cons (pv 0) (pa_cons (pv 2) (pa_cons (pv 3) pa_nil)))) pa_nil)))
        (pss_one (ps_if (pt_cmpR op_eq (pv 6) pe_int (nomark _))
          (pss_cons (ps_asg (pe_ix ix_list (pv 4) (pe_call G hr1 (by rfl) mgg kp bd .nil pass0 (pa_cons (pv 0) (pa_cons (pe_callB call_len_seq (by rfl) T.len PySem.boot_len (pa_cons (pv 4) pa_nil)) pa_nil))) (fun _ _ => rfl)) (pg_sub (pv 4) (pe_un un_neg pe_int) set_list))
          (pss_one (ps_set (i := 3) nd rfl (.inl rfl) (pe_callB call_len_seq (by rfl) T.len PySem.boot_len (pa_cons (pe_ix ix_list (pv 4) (pe_un un_neg pe_int) (fun _ _ => rfl)) pa_nil))))) pss_nil))))))
      (pss_one (ps_ret (pv 4))))), ?_⟩
    refine ⟨6, rfl, by decide, by decide, fun sr nsr => lc_range (n := 6) (fun i H' => IntsAt b l H sr i H') (IntsAt.start hB KB.refl nsr) ?_ ?_⟩
    · rintro i H1 hi o
      refine ⟨rfl, _, rfl, b, l, 2, rfl, o.box, by decide, by decide, fun r H2 r0 r1 hB2 x2 => ?_⟩
      obtain ⟨acc, hacc, hl, o2⟩ := o.more (z := r) hB2 x2
      exact ⟨acc, hacc, by omega, o2⟩
    rintro H1 ⟨hB1, x1, nsr, sb, sl, ss, h6, hs1⟩
    refine ⟨_, rfl, b, l, 6, rfl, hB1, by decide, by decide, fun m0 H2 a0 a1 hB2 x2 => ⟨1, m0, rfl, rfl, small0, fun lr nlr => ⟨_, _, rfl, ?_⟩⟩⟩
    have hs2 := x2 sr _ hs1 sb sl
    have y2 := x1.trans x2
    obtain ⟨lb, ll⟩ := new_ne hB2 nlr
    have lrs : lr ≠ sr := fun z => by rw [z, hs2] at nlr; cases nlr
    have nlr0 := new_old y2 hB2 nlr
    refine ⟨_, rfl, _, rfl, b, l, m, rfl, box_new hB2 nlr, by omega, by omega, fun tt H4 t0 t1 hB4 x4 => ⟨1, tt, rfl, rfl, 1 + tt, rfl, by omega, by omega, ?_⟩⟩
    have hs4 : H4 sr = some (.lst (ss.map V.int)) := x4 sr _ (by rw [upd_ne lrs.symm]; exact hs2) sb sl
    have y4 := (y2.trans (kb_new nlr)).trans x4
    have hl4 : H4 lr = some (.lst []) := x4 lr _ upd_same lb ll
    refine for_range (n := (1 + tt).toNat) (fun i σ H' => ∃ (mm : Int) (as : List Addr) (c5 c6 : Option V), σ = [some (.ref b), some (.int m), some (.ref sr), some (.int mm), some (.ref lr), c5, c6, none] ∧ 1 ≤ mm ∧ mm ≤ 6 ∧ BoxAt H' b l ∧ KB b l H H' ∧ H' sr = some (.lst (ss.map V.int)) ∧ H' lr = some (.lst (as.map V.ref)) ∧ as.length = i ∧ RowsP H' as)
      ⟨1 + m0, [], none, none, rfl, by omega, by omega, hB4, y4, hs4, hl4, rfl, fun p h => by simp at h⟩ ?_ ?_
    · rintro i σ H5 hi ⟨mm, as, c5, c6, rfl, mm1, mm6, hB5, y5, hs5, hl5, hlen, hR5⟩
      refine ⟨_, rfl, b, l, 8, rfl, hB5, by decide, by decide, fun way H6 w0 w1 hB6 x6 => ?_⟩
      refine ⟨_, rfl, b, l, 6, rfl, hB6, by decide, by decide, fun n6 H7 n0 n1 hB7 x7 => ⟨1, n6, rfl, rfl, _, rfl, mm, 1, rfl, rfl, 1, mm - 1, rfl, _, rfl, mm, 1, rfl, rfl, 6, mm + 1, rfl, _, rfl, line10 (by show 4 ≤ 1000; decide), fun q nq => ?_⟩⟩
      obtain ⟨mv, hmv, emv⟩ := pick (xs := [1 + n6, (if mm - 1 > 1 then mm - 1 else 1), (if mm + 1 < 6 then mm + 1 else 6), mm]) (i := if 3 < way then 3 else way) (by split <;> omega) (by show _ < (4 : Int); split <;> omega)
      have hmv2 : 1 ≤ mv ∧ mv ≤ 6 := by
        simp only [List.mem_cons, List.not_mem_nil, or_false] at hmv
        rcases hmv with h | h | h | h
        · omega
        · split at h <;> omega
        · split at h <;> omega
        · omega
      refine ⟨_, rfl, way, 3, rfl, q, _, _, .int mv, rfl, rfl, SqL.of upd_same, atI_map (f := V.int) emv, ?_⟩
      have y7 : KB b l H5 (upd H7 q (.lst (List.map V.int [1 + n6, (if mm - 1 > 1 then mm - 1 else 1), (if mm + 1 < 6 then mm + 1 else 6), mm]))) := (x6.trans x7).trans (kb_new nq)
      have hB8 := box_new (o := .lst (List.map V.int [1 + n6, (if mm - 1 > 1 then mm - 1 else 1), (if mm + 1 < 6 then mm + 1 else 6), mm])) hB7 nq
      have hl8 := y7 lr _ hl5 lb ll
      have hs8 := y7 sr _ hs5 sb sl
      refine ⟨_, rfl, .inl ⟨rfl, _, SqL.of hl8⟩, _, rfl, _, rfl, _, rfl, b, l, sr, ss, mv, rfl, hB8, hs8, h6, sb, sl, hmv2.1, hmv2.2, fun p r H9 hB9 x9 np hp hro => ?_⟩
      have hl9 := x9 lr _ hl8 lb ll
      have hs9 := x9 sr _ hs8 sb sl
      have plr : p ≠ lr := fun z => by rw [z, hl9] at hp; cases hp
      refine ⟨lr, _, .ref p, rfl, rfl, hl9, by rw [List.length_map]; omega, ?_⟩
      have el : as.map V.ref ++ [V.ref p] = (as ++ [p]).map V.ref := by simp
      rw [el]
      have y9 := kb_upd (o := .lst ((as ++ [p]).map V.ref)) (y5.trans (y7.trans x9)) nlr0
      have hB10 := box_upd (o := .lst ((as ++ [p]).map V.ref)) hB9 lb ll
      have hl10 : (upd H9 lr (.lst ((as ++ [p]).map V.ref))) lr = some (.lst ((as ++ [p]).map V.ref)) := upd_same
      have hs10 : (upd H9 lr (.lst ((as ++ [p]).map V.ref))) sr = some (.lst (ss.map V.int)) := by rw [upd_ne lrs.symm]; exact hs9
      have hR10 : RowsP (upd H9 lr (.lst ((as ++ [p]).map V.ref))) (as ++ [p]) := fun u hu => by
        rcases List.mem_append.mp hu with h | h
        · obtain ⟨r2, e1, e2⟩ := hR5 u h
          have e3 := kb_tup (y7.trans x9) hB5 u _ e1
          exact ⟨r2, by rw [upd_ne (fun z => by rw [z, hl9] at e3; cases e3)]; exact e3, e2⟩
        · rw [List.mem_singleton.mp h]
          exact ⟨r, by rw [upd_ne plr]; exact hp, hro⟩
      have hlen2 : (as ++ [p]).length = i + 1 := by rw [List.length_append, hlen]; rfl
      generalize (upd H9 lr (.lst ((as ++ [p]).map V.ref))) = H10 at y9 hB10 hl10 hs10 hR10 ⊢
      generalize as ++ [p] = as2 at hl10 hR10 hlen2 ⊢
      refine ⟨_, rfl, rfl, _, rfl, iteB ?_ ?_⟩
      · have ln : ((as2.map V.ref).length : Int) = ((i + 1 : Nat) : Int) := by rw [List.length_map, hlen2]
        refine ⟨_, rfl, _, rfl, _, rfl, lr, _, rfl, .inl (SqL.of hl10), b, l, _, rfl, hB10, by omega, by omega, fun j H11 j0 j1 hB11 x11 => ?_⟩
        have hl11 := x11 lr _ hl10 lb ll
        obtain ⟨u, hu, eu⟩ := pick (xs := as2) (i := j) j0 (by rw [hlen2]; omega)
        obtain ⟨r2, e1, e2⟩ := hR10 u hu
        have e3 := kb_tup x11 hB10 u _ e1
        have ulr : u ≠ lr := fun z => by rw [z, hl11] at e3; cases e3
        have ix : ixN (as2.map V.ref).length (-1) = some i := by rw [List.length_map, hlen2]; exact ixm1
        refine ⟨lr, _, j, .ref u, rfl, rfl, SqL.of hl11, atI_map eu, _, rfl, 1, rfl, lr, _, -1, i, rfl, rfl, hl11, ix, ?_⟩
        have es : (as2.map V.ref).set i (V.ref u) = (as2.set i u).map V.ref := by rw [List.map_set]
        rw [es]
        have gu : (as2.set i u)[i]? = some u := List.getElem?_set_self (by omega)
        have hs11 := x11 sr _ hs10 sb sl
        refine ⟨_, rfl, 1, rfl, lr, _, -1, .ref u, rfl, rfl, SqL.of upd_same, atm1 (n := i) (by rw [List.length_map, List.length_set, hlen2]) (by rw [List.getElem?_map, gu]; rfl), u, _, rfl, .inr (SqT.of (by rw [upd_ne ulr]; exact e3)), ?_⟩
        have l1 := e2.pos
        have l2 := e2.len
        have lr2 : (sV r2).length = r2.length := List.length_map ..
        refine ⟨_, as2.set i u, _, _, rfl, by omega, by omega, box_upd hB11 lb ll, kb_upd (y9.trans x11) nlr0, by rw [upd_ne lrs.symm]; exact hs11, upd_same, by rw [List.length_set, hlen2], fun v hv => ?_⟩
        rcases List.mem_or_eq_of_mem_set hv with h | h
        · obtain ⟨r3, f1, f2⟩ := hR10 v h
          have f3 := kb_tup x11 hB10 v _ f1
          exact ⟨r3, by rw [upd_ne (fun z => by rw [z, hl11] at f3; cases f3)]; exact f3, f2⟩
        · rw [h]
          exact ⟨r2, by rw [upd_ne ulr]; exact e3, e2⟩
      · exact ⟨_, as2, _, _, rfl, hmv2.1, hmv2.2, hB10, y9, hs10, hl10, hlen2, hR10⟩
    · rintro σ H5 ⟨mm, as, c5, c6, rfl, mm1, mm6, hB5, y5, hs5, hl5, hlen, hR5⟩
      obtain ⟨rows, g1, g2, g3⟩ := hR5.page
      exact ⟨_, rfl, k lr as rows H5 hB5 y5 nlr0 lb ll hl5 g1 g2 ⟨by omega, by omega, g3⟩⟩
def spStyleD : Sp := fun vs H Q _ => ∃ (b l : Addr), vs = [.ref b] ∧ BoxAt H b l ∧
  ∀ (p : Addr) (gap least : Int) (H' : Hp), BoxAt H' b l → KB b l H H' → H p = none → H' p = some (.tup [.int gap, .int least]) → 0 ≤ gap → gap ≤ 4 → 0 ≤ least → least ≤ 12 → Q (.ref p) H'
theorem sc_lstyle : FnScope ["_law_box", "_law_gap"] ["_law_box"] (defScope s_style) := ⟨rfl, rfl, rfl, by decide +kernel, rfl, by decide +kernel, by decide +kernel⟩
theorem ok_lstyle {f g : Addr} {fd fdg : FuncData} (F : Fun K "_law_style" "_law_style" s_style f fd)
    (G : FnOk P w K mg base CX0 1 g fdg ["_law_box", "_law_many"] spTake) (kp : PySem.W.keepIn K (.ref g) = true) (bd : Binds K fdg ["_law_box", "_law_many"] []) (mgg : mg "_law_take" = some (.ref g)) : FnOk P w K mg base CX0 2 f fd ["_law_box"] spStyleD := by
  refine F.ok sc_lstyle (fun vs H Q E h => ?_) (fun cdv A outer s H vs Q E hr h => ?_)
  · obtain ⟨b, l, rfl, _⟩ := h
    rfl
  · obtain ⟨b, l, rfl, hB, k⟩ := h
    have nd := sc_lstyle.nd
    refine ⟨_, pss_cons (ps_set (i := 1) nd rfl (.inl rfl) (pe_ix ix_list (pe_lst (pa_cons (pe_call G hr (by rfl) mgg kp bd .nil pass0 (pa_cons (pv 0) (pa_cons pe_int pa_nil))) (pa_cons pe_int (pa_cons pe_int pa_nil)))) (pe_call G hr (by rfl) mgg kp bd .nil pass0 (pa_cons (pv 0) (pa_cons pe_int pa_nil))) (fun _ _ => rfl)))
      (pss_one (ps_ret (pe_tup (pa_cons (pv 1) (pa_cons (pe_ix ix_list (pe_lst (pa_cons pe_int (pa_cons (pe_call G hr (by rfl) mgg kp bd .nil pass0 (pa_cons (pv 0) (pa_cons pe_int pa_nil))) (pa_cons (pe_call G hr (by rfl) mgg kp bd .nil pass0 (pa_cons (pv 0) (pa_cons pe_int pa_nil))) pa_nil))))
        (pe_call G hr (by rfl) mgg kp bd .nil pass0 (pa_cons (pv 0) (pa_cons pe_int pa_nil))) (fun _ _ => rfl)) pa_nil))))), ?_⟩
    refine ⟨_, rfl, b, l, 5, rfl, hB, by decide, by decide, fun g0 H1 a0 a1 hB1 x1 => ⟨line10 (by show 3 ≤ 1000; decide), fun p np => ⟨_, rfl, b, l, 3, rfl, box_new hB1 np, by decide, by decide, fun r H2 r0 r1 hB2 x2 => ?_⟩⟩⟩
    obtain ⟨nb, nl⟩ := new_ne hB1 np
    have hp := x2 p _ upd_same nb nl
    obtain ⟨gap, hg, eg⟩ := pick (xs := [g0, 1, 2]) (i := r) r0 r1
    have hg2 : 0 ≤ gap ∧ gap ≤ 4 := by
      simp only [List.mem_cons, List.not_mem_nil, or_false] at hg
      omega
    have y2 := (x1.trans (kb_new np)).trans x2
    refine ⟨p, _, _, .int gap, rfl, rfl, SqL.of hp, atI_map (f := V.int) eg, ?_⟩
    refine ⟨_, rfl, _, rfl, b, l, 13, rfl, hB2, by decide, by decide, fun l1 H3 b0 b1 hB3 x3 => ⟨_, rfl, b, l, 13, rfl, hB3, by decide, by decide, fun l2 H4 c0 c1 hB4 x4 => ⟨line10 (by show 3 ≤ 1000; decide), fun q nq => ⟨_, rfl, b, l, 3, rfl, box_new hB4 nq, by decide, by decide, fun r2 H5 s0 s1 hB5 x5 => ?_⟩⟩⟩⟩
    obtain ⟨nb2, nl2⟩ := new_ne hB4 nq
    have hq := x5 q _ upd_same nb2 nl2
    obtain ⟨least, hl, el⟩ := pick (xs := [0, l1, l2]) (i := r2) s0 s1
    have hl2 : 0 ≤ least ∧ least ≤ 12 := by
      simp only [List.mem_cons, List.not_mem_nil, or_false] at hl
      omega
    have y5 := (((y2.trans x3).trans x4).trans (kb_new nq)).trans x5
    exact ⟨q, _, _, .int least, rfl, rfl, SqL.of hq, atI_map (f := V.int) el, line10 (by show 2 ≤ 1000; decide), fun t nt => k t gap least _ (box_new hB5 nt) (y5.trans (kb_new nt)) (new_old y5 hB5 nt) upd_same hg2.1 hg2.2 hl2.1 hl2.2⟩
end
end TG
namespace TG
open PySem L2 Gx
theorem same_refl {H : Hp} : Same H H := fun _ _ h => h
theorem same_trans {H H1 H2 : Hp} (a : Same H H1) (b : Same H1 H2) : Same H H2 := fun c o h => b c o (a c o h)
theorem same_new {H : Hp} {p : Addr} {o : HO} (n : H p = none) : Same H (upd H p o) := fun c u h => by rw [upd_ne (ne_of_none h n)]; exact h
theorem same_upd {H H' : Hp} {p : Addr} {o : HO} (x : Same H H') (n : H p = none) : Same H (upd H' p o) := fun c u h => by rw [upd_ne (ne_of_none h n)]; exact x c u h
theorem same_sqL {K : PySem.W.Frag} {H H' : Hp} {a : Addr} {xs : List V} (e : Same H H') (h : SqL K H a xs) : SqL K H' a xs := by
  rcases h with (z | ⟨o, z⟩) | z
  · exact .inl (.inl (e _ _ z))
  · exact .inl (.inr ⟨o, e _ _ z⟩)
  · exact .inr z
theorem same_sqT {K : PySem.W.Frag} {H H' : Hp} {a : Addr} {xs : List V} (e : Same H H') (h : SqT K H a xs) : SqT K H' a xs := by
  rcases h with (z | ⟨o, z⟩) | z
  · exact .inl (.inl (e _ _ z))
  · exact .inl (.inr ⟨o, e _ _ z⟩)
  · exact .inr z
theorem PageAt.same {K : PySem.W.Frag} {H H' : Hp} {a : Addr} {as : List Addr} {rows : List (List Str)} (p : PageAt K H a as rows) (e : Same H H') : PageAt K H' a as rows :=
  ⟨same_sqL e p.lst, p.len, fun i q r h1 h2 => same_sqT e (p.row i q r h1 h2)⟩
theorem same_old {H H' : Hp} {p : Addr} (e : Same H H') (n : H' p = none) : H p = none := by
  cases q : H p with
  | none => rfl
  | some o => rw [e _ _ q] at n; cases n
theorem canAll_strs : ∀ {zs : List Str}, (∀ z ∈ zs, ∀ c ∈ cl z, SgOk c) → PyData.canLayAll0 (zs.map PyData.str) = true
  | [], _ => rfl
  | z :: zs, h => by
    rw [List.map_cons]
    simp only [PyData.canLayAll0, PyData.canLay0, Bool.and_eq_true]
    refine ⟨?_, canAll_strs fun y hy => h y (List.mem_cons_of_mem _ hy)⟩
    unfold PyData.strOk
    rw [← Array.all_toList, List.all_eq_true]
    intro c hc
    have := h z List.mem_cons_self c hc
    unfold SgOk at this
    exact decide_eq_true (by omega)
theorem depthAll_strs : ∀ zs : List Str, PyData.depthAll (zs.map PyData.str) = 0
  | [] => rfl
  | _ :: r => by simp [PyData.depthAll, PyData.depth, depthAll_strs r]
theorem dp_strs {K : PySem.W.Frag} {H : Hp} : ∀ zs : List Str, DpAll K H (sV zs) (zs.map PyData.str)
  | [] => .nil
  | z :: zs => .cons (.str z) (dp_strs zs)
section
variable {P : Program} {w : World} {K : PySem.W.Frag} {mg : Str → Option Value} {base : Heap} {cs : List (Addr × Addr)}
end
end TG
namespace TG
open PySem L2 Gx
def loB (rows : List (List Str)) (c : Nat) : Nat → Nat
  | 0 => 0
  | i + 1 => if clB rows c i = true then loB rows c i else i + 1
theorem lo_eq {rows : List (List Str)} {c i : Nat} : (loB rows c i = i) ↔ (i = 0 ∨ clB rows c (i - 1) = false) := by
  have le : ∀ j, loB rows c j ≤ j := by
    intro j
    induction j with
    | zero => exact Nat.le_refl _
    | succ j ih =>
      show (if clB rows c j = true then loB rows c j else j + 1) ≤ j + 1
      split
      · omega
      · omega
  cases i with
  | zero => exact ⟨fun _ => .inl rfl, fun _ => rfl⟩
  | succ i =>
    rw [Nat.add_sub_cancel]
    show (if clB rows c i = true then loB rows c i else i + 1) = i + 1 ↔ _
    have := le i
    by_cases h : clB rows c i = true
    · rw [if_pos h, h]
      constructor
      · intro q; omega
      · intro q
        rcases q with q | q
        · omega
        · cases q
    · rw [if_neg h]
      constructor
      · intro _; exact .inr (by cases q : clB rows c i with
          | true => exact absurd q h
          | false => rfl)
      · intro _; rfl
section
variable {P : Program} {w : World} {K : PySem.W.Frag} {mg : Str → Option Value} {base : Heap} {cs : List (Addr × Addr)}
end
end TG
namespace TG
open PySem L2 Gx
theorem st_cl {rows : List (List Str)} {c i : Nat} (h : stB rows c i = true) : clB rows c i = true ∧ loB rows c i = i ∧ hiB rows c (i + 1) = hiB rows c i ∧ i < hiB rows c i ∧ hiB rows c i ≤ rows.length ∧ ∀ j, i ≤ j → j < hiB rows c i → clB rows c j = true := by
  unfold stB at h
  obtain ⟨h1, h2⟩ := Bool.and_eq_true_iff.mp h
  refine ⟨h1, lo_eq.mpr ?_, (hi_yes h1).symm, ?_, hi_le (Nat.le_of_lt (cl_lt h1)), fun j h3 h4 => hi_in (j - i) i j (by omega) h4⟩
  · rcases Bool.or_eq_true_iff.mp h2 with q | q
    · exact .inl (of_decide_eq_true q)
    · exact .inr (by simpa using q)
  · rw [hi_yes h1]; exact hi_ge rows c (i + 1)
end TG
namespace TG
open PySem L2 Gx
theorem lo_le (rows : List (List Str)) (c : Nat) : ∀ i, loB rows c i ≤ i
  | 0 => Nat.le_refl _
  | i + 1 => by
    show (if clB rows c i = true then loB rows c i else i + 1) ≤ i + 1
    have := lo_le rows c i
    split <;> omega
theorem lo_in {rows : List (List Str)} {c : Nat} : ∀ {i j : Nat}, loB rows c i ≤ j → j < i → clB rows c j = true
  | 0, j, _, h => absurd h (Nat.not_lt_zero _)
  | i + 1, j, h1, h2 => by
    have h1 : (if clB rows c i = true then loB rows c i else i + 1) ≤ j := h1
    split at h1
    · rename_i q
      by_cases e : j = i
      · rw [e]; exact q
      · exact lo_in h1 (by omega)
    · omega
theorem st_lo {rows : List (List Str)} {c i : Nat} (h : clB rows c i = true) : stB rows c (loB rows c i) = true := by
  have h1 := lo_le rows c i
  have h2 : clB rows c (loB rows c i) = true := by
    by_cases e : loB rows c i = i
    · rw [e]; exact h
    · exact lo_in (Nat.le_refl _) (by omega)
  unfold stB
  rw [h2, Bool.true_and]
  have h3 : loB rows c i = 0 ∨ clB rows c (loB rows c i - 1) = false := by
    clear h h2 h1
    induction i with
    | zero => exact .inl rfl
    | succ i ih =>
      show (if clB rows c i = true then loB rows c i else i + 1) = 0 ∨ clB rows c ((if clB rows c i = true then loB rows c i else i + 1) - 1) = false
      by_cases q : clB rows c i = true
      · rw [if_pos q]; exact ih
      · rw [if_neg q, Nat.add_sub_cancel]
        exact .inr (by simpa using q)
  rcases h3 with q | q
  · rw [decide_eq_true q, Bool.true_or]
  · rw [q, Bool.not_false, Bool.or_true]
theorem hi_down {rows : List (List Str)} {c x : Nat} : ∀ {d : Nat}, (∀ j, x ≤ j → j < x + d → clB rows c j = true) → hiB rows c x = hiB rows c (x + d)
  | 0, _ => rfl
  | d + 1, h => by
    rw [hi_down (d := d) fun j h1 h2 => h j h1 (by omega), hi_yes (h (x + d) (by omega) (by omega)), Nat.add_assoc]
theorem hi_lo (rows : List (List Str)) (c i : Nat) : hiB rows c (loB rows c i) = hiB rows c i := by
  have h := lo_le rows c i
  obtain ⟨d, hd⟩ := Nat.exists_eq_add_of_le h
  have := hi_down (rows := rows) (c := c) (x := loB rows c i) (d := d) fun j h1 h2 => lo_in h1 (by omega)
  rw [this, ← hd]
theorem lo_same {rows : List (List Str)} {c x : Nat} (h : stB rows c x = true) : ∀ {d : Nat}, x + d < hiB rows c x → loB rows c (x + d) = x
  | 0, _ => (st_cl h).2.1
  | d + 1, hd => by
    show (if clB rows c (x + d) = true then loB rows c (x + d) else x + d + 1) = x
    rw [if_pos ((st_cl h).2.2.2.2.2 (x + d) (by omega) (by omega))]
    exact lo_same h (by omega)
/-- a closed cell's stretch -/
theorem cl_run {rows : List (List Str)} {c i : Nat} (h : clB rows c i = true) : loB rows c i ≤ i ∧ i < hiB rows c i ∧ hiB rows c (i + 1) = hiB rows c i ∧ hiB rows c i ≤ rows.length ∧ ∀ j, loB rows c i ≤ j → j < hiB rows c i → clB rows c j = true := by
  obtain ⟨_, _, _, _, h2, h3⟩ := st_cl (st_lo h)
  rw [hi_lo] at h2 h3
  refine ⟨lo_le rows c i, ?_, (hi_yes h).symm, h2, h3⟩
  rw [hi_yes h]
  exact hi_ge rows c (i + 1)
abbrev covB (i : Nat) (q : Nat × Nat × Nat) : Bool := decide (q.2.1 ≤ i ∧ i < q.2.2)
theorem filter_one {p : Nat → Bool} {a : Nat} (h : ∀ x, p x = decide (x = a)) : ∀ n, (List.range n).filter p = if a < n then [a] else [] := by
  intro n
  induction n with
  | zero => simp
  | succ n ih =>
    rw [List.range_succ, List.filter_append, ih]
    by_cases e : n = a
    · subst e
      rw [if_neg (Nat.lt_irrefl _), if_pos (Nat.lt_succ_self _), List.filter_cons_of_pos (by rw [h]; exact decide_eq_true rfl)]
      rfl
    · rw [List.filter_cons_of_neg (by rw [h, decide_eq_false e]; exact Bool.false_ne_true), List.filter_nil, List.append_nil]
      by_cases q : a < n
      · rw [if_pos q, if_pos (by omega)]
      · rw [if_neg q, if_neg (by omega)]
theorem col_cov (rows : List (List Str)) (c i : Nat) : (ofCol rows c).filter (covB i) = if clB rows c i = true then [(c, loB rows c i, hiB rows c i)] else [] := by
  unfold ofCol runsB
  rw [List.map_map, List.filter_map]
  rw [List.filter_filter]
  by_cases h : clB rows c i = true
  · rw [if_pos h]
    have hp : ∀ x, (((covB i) ∘ ((fun p : Nat × Nat => (c, p.1, p.2)) ∘ fun i => (i, hiB rows c i))) x && stB rows c x) = decide (x = loB rows c i) := fun x => by
      rw [Bool.eq_iff_iff, Bool.and_eq_true, decide_eq_true_eq]
      constructor
      · rintro ⟨h1, h2⟩
        obtain ⟨h3, h4⟩ := of_decide_eq_true h1
        have h3 : x ≤ i := h3
        have h4 : i < hiB rows c x := h4
        obtain ⟨d, hd⟩ := Nat.exists_eq_add_of_le h3
        rw [hd]
        exact (lo_same h2 (by omega)).symm
      · intro e
        subst e
        obtain ⟨h1, h2, _⟩ := cl_run h
        refine ⟨decide_eq_true ⟨h1, ?_⟩, st_lo h⟩
        show i < hiB rows c (loB rows c i)
        rw [hi_lo]; exact h2
    rw [filter_one hp, if_pos (Nat.lt_of_le_of_lt (lo_le rows c i) (cl_lt h))]
    show [(c, loB rows c i, hiB rows c (loB rows c i))] = _
    rw [hi_lo]
  · rw [if_neg h]
    have : List.filter (fun x => ((covB i) ∘ ((fun p : Nat × Nat => (c, p.1, p.2)) ∘ fun i => (i, hiB rows c i))) x && stB rows c x) (List.range rows.length) = [] := by
      refine List.filter_eq_nil_iff.mpr fun x _ q => ?_
      obtain ⟨h1, h2⟩ := Bool.and_eq_true_iff.mp q
      obtain ⟨h3, h4⟩ := of_decide_eq_true h1
      have h3 : x ≤ i := h3
      have h4 : i < hiB rows c x := h4
      exact h ((st_cl h2).2.2.2.2.2 i h3 h4)
    rw [this]
    rfl
/-- how many cells of row i are closed -/
def ncl (rows : List (List Str)) (i : Nat) : Nat := match rows[i]? with
  | some r => r.length - 1
  | none => 0
theorem cl_ncl (rows : List (List Str)) (c i : Nat) : clB rows c i = decide (c < ncl rows i) := by
  unfold clB ncl
  cases rows[i]? with
  | none => exact (decide_eq_false (Nat.not_lt_zero _)).symm
  | some r =>
    show decide (c + 1 < r.length) = decide (c < r.length - 1)
    exact decide_eq_decide.mpr (by omega)
def entOf (rows : List (List Str)) (i c : Nat) : Nat × Nat × Nat := (c, loB rows c i, hiB rows c i)
theorem flat_if {α : Type} {f : Nat → α} {m : Nat} : ∀ d, (List.range d).flatMap (fun c => if c < m then [f c] else []) = (List.range (min d m)).map f := by
  intro d
  induction d with
  | zero => simp
  | succ d ih =>
    rw [List.range_succ, List.flatMap_append, ih, List.flatMap_cons, List.flatMap_nil, List.append_nil]
    by_cases h : d < m
    · rw [if_pos h, Nat.min_eq_left (by omega), Nat.min_eq_left (by omega), List.range_succ, List.map_append]
      rfl
    · rw [if_neg h, List.append_nil, Nat.min_eq_right (by omega), Nat.min_eq_right (by omega)]
theorem ncl_le {rows : List (List Str)} (hO : PgOk rows) (i : Nat) : ncl rows i ≤ 5 := by
  unfold ncl
  cases q : rows[i]? with
  | none => exact Nat.zero_le _
  | some r =>
    have := (hO.rows r (List.mem_of_getElem? q)).len
    show r.length - 1 ≤ 5
    omega
/-- the entries that hold row i, in turn -/
theorem ent_cov {rows : List (List Str)} (hO : PgOk rows) (i : Nat) : (entB rows).filter (covB i) = (List.range (ncl rows i)).map (entOf rows i) := by
  unfold entB
  rw [List.filter_flatMap]
  have e : (fun c => (ofCol rows c).filter (covB i)) = fun c => if c < ncl rows i then [entOf rows i c] else [] := by
    funext c
    rw [col_cov, cl_ncl]
    by_cases h : c < ncl rows i
    · rw [if_pos (decide_eq_true h), if_pos h]; rfl
    · rw [if_neg (by rw [decide_eq_false h]; exact Bool.false_ne_true), if_neg h]
  rw [e, flat_if, Nat.min_eq_right (ncl_le hO i)]
def cntB (rows : List (List Str)) (j i : Nat) : Nat := (((entB rows).take j).filter (covB i)).length
theorem cnt_all {rows : List (List Str)} (hO : PgOk rows) (i : Nat) : cntB rows (entB rows).length i = ncl rows i := by
  unfold cntB
  rw [List.take_of_length_le (Nat.le_refl _), ent_cov hO, List.length_map, List.length_range]
theorem cnt_no {rows : List (List Str)} {j i : Nat} {q : Nat × Nat × Nat} (hq : (entB rows)[j]? = some q) (h : covB i q = false) : cntB rows (j + 1) i = cntB rows j i := by
  unfold cntB
  rw [List.take_add_one, hq, List.filter_append]
  have : List.filter (covB i) (some q).toList = [] := by
    show List.filter (covB i) [q] = []
    rw [List.filter_cons_of_neg (by rw [h]; exact Bool.false_ne_true)]
    rfl
  rw [this, List.append_nil]
theorem cnt_yes {rows : List (List Str)} (hO : PgOk rows) {j i : Nat} {q : Nat × Nat × Nat} (hq : (entB rows)[j]? = some q) (h : covB i q = true) : cntB rows (j + 1) i = cntB rows j i + 1 ∧ q = entOf rows i (cntB rows j i) ∧ cntB rows j i < ncl rows i := by
  have e1 : ((entB rows).take (j + 1)).filter (covB i) = ((entB rows).take j).filter (covB i) ++ [q] := by
    rw [List.take_add_one, hq, List.filter_append]
    congr 1
    show List.filter (covB i) [q] = [q]
    rw [List.filter_cons_of_pos h]
    rfl
  have e2 : (entB rows).filter (covB i) = (((entB rows).take j).filter (covB i) ++ [q]) ++ ((entB rows).drop (j + 1)).filter (covB i) := by
    rw [← e1, ← List.filter_append, List.take_append_drop]
  have e3 : ((entB rows).filter (covB i))[cntB rows j i]? = some q := by
    rw [e2, List.append_assoc]
    have e4 : cntB rows j i = (List.filter (covB i) (List.take j (entB rows))).length := rfl
    rw [e4, List.getElem?_append_right (Nat.le_refl _), Nat.sub_self]
    rfl
  rw [ent_cov hO, List.getElem?_map] at e3
  refine ⟨by unfold cntB; rw [e1, List.length_append]; rfl, ?_⟩
  by_cases hl : cntB rows j i < ncl rows i
  · rw [List.getElem?_eq_getElem (by rw [List.length_range]; exact hl), List.getElem_range] at e3
    exact ⟨(Option.some.inj e3).symm, hl⟩
  · rw [List.getElem?_eq_none (by rw [List.length_range]; omega)] at e3
    cases e3
def wB (rows : List (List Str)) (gap least : Int) (i c : Nat) : Int := widthB (cellsB rows c (loB rows c i) (hiB rows c i)) gap least
def rB (rows : List (List Str)) (i c : Nat) : Bool := rightB (cellsB rows c (loB rows c i) (hiB rows c i))
def leftB (rows : List (List Str)) (gap least : Int) (i : Nat) : Nat → Int
  | 0 => 0
  | c + 1 => leftB rows gap least i c + wB rows gap least i c
def leftsB (rows : List (List Str)) (gap least : Int) (i n : Nat) : List Int := (List.range (n + 1)).map (leftB rows gap least i)
theorem lefts_snoc (rows : List (List Str)) (gap least : Int) (i n : Nat) : leftsB rows gap least i (n + 1) = leftsB rows gap least i n ++ [leftB rows gap least i n + wB rows gap least i n] := by
  unfold leftsB
  rw [List.range_succ (n := n + 1), List.map_append]
  rfl
theorem lefts_len (rows : List (List Str)) (gap least : Int) (i n : Nat) : (leftsB rows gap least i n).length = n + 1 := by
  unfold leftsB
  rw [List.length_map, List.length_range]
theorem lefts_get {rows : List (List Str)} {gap least : Int} {i n c : Nat} (h : c ≤ n) : (leftsB rows gap least i n)[c]? = some (leftB rows gap least i c) := by
  unfold leftsB
  rw [List.getElem?_map, List.getElem?_range (by omega)]
  rfl
end TG
namespace TG
open PySem L2 Gx
section
variable {P : Program} {w : World} {K : PySem.W.Frag} {mg : Str → Option Value} {base : Heap} {cs : List (Addr × Addr)}
end
end TG
namespace TG
open PySem L2 Gx
/-- the list at l holds what is told of the first n closed cells of row i -/
def CellsAt (H : Hp) (rows : List (List Str)) (gap least : Int) (i n : Nat) (l : Addr) : Prop :=
  ∃ ts : List Addr, H l = some (.lst (ts.map V.ref)) ∧ ts.length = n ∧ ∀ (c : Nat) (t : Addr), ts[c]? = some t → H t = some (.tup [.int (wB rows gap least i c), .bl (rB rows i c)])
theorem CellsAt.ext {H H' : Hp} {rows : List (List Str)} {gap least : Int} {i n : Nat} {l : Addr} (x : CellsAt H rows gap least i n l) (e : LamX.ExtN H H') : CellsAt H' rows gap least i n l :=
  let ⟨ts, h1, h2, h3⟩ := x
  ⟨ts, e _ _ h1 (by intro ps z; cases z), h2, fun c t h => e _ _ (h3 c t h) (by intro ps z; cases z)⟩
theorem CellsAt.upd {H : Hp} {rows : List (List Str)} {gap least : Int} {i n : Nat} {l p : Addr} {xs : List V} {o : HO} (x : CellsAt H rows gap least i n l) (hp : H p = some (.lst xs)) (ne : l ≠ p) : CellsAt (upd H p o) rows gap least i n l :=
  let ⟨ts, h1, h2, h3⟩ := x
  ⟨ts, by rw [upd_ne ne]; exact h1, h2, fun c t h => by rw [upd_ne (ne_of (h3 c t h) hp (by intro z; cases z))]; exact h3 c t h⟩
theorem ent_le {rows : List (List Str)} {j : Nat} {q : Nat × Nat × Nat} (h : (entB rows)[j]? = some q) : q.2.1 < q.2.2 ∧ q.2.2 ≤ rows.length := by
  obtain ⟨c, _, h2⟩ := List.mem_flatMap.mp (show q ∈ (List.range 5).flatMap (ofCol rows) from List.mem_of_getElem? h)
  obtain ⟨p, h3, rfl⟩ := List.mem_map.mp h2
  obtain ⟨i, hi, e⟩ := List.getElem_of_mem h3
  obtain ⟨f1, f2, _⟩ := run_facts (i := i) (by rw [List.getElem?_eq_getElem hi, e])
  exact ⟨f1, f2⟩
section
variable {P : Program} {w : World} {K : PySem.W.Frag} {mg : Str → Option Value} {base : Heap} {cs : List (Addr × Addr)}
def spCC (K : PySem.W.Frag) (cs : List (Addr × Addr)) : Sp := fun vs H Q _ => ∃ (a st : Addr) (as : List Addr) (rows : List (List Str)) (gap least : Int), vs = [.ref a, .ref st] ∧ Tabs cs H ∧ PageAt K H a as rows ∧ PgOk rows ∧ StyleAt K H st gap least ∧
  ∀ (r : Addr) (ls : List Addr) (H' : Hp), Ex cs H H' → H r = none → (∀ l ∈ ls, H l = none) → H' r = some (.lst (ls.map V.ref)) → ls.length = rows.length → (∀ (i : Nat) (l : Addr), ls[i]? = some l → CellsAt H' rows gap least i (ncl rows i) l) → Q (.ref r) H'
abbrev nmCC : List Str := ["page", "style", "found", "rows", "column", "begin", "end", "width", "right", "holders", "number", "row"]
theorem sc_cc : FnScope nmCC ["page", "style"] (defScope s_closed_cells) := ⟨rfl, rfl, rfl, by decide +kernel, rfl, by decide +kernel, by decide +kernel⟩
theorem ok_cc {f g : Addr} {fd fdg : FuncData} (T : Txt mg) (F : Fun K "closed_cells" "closed_cells" s_closed_cells f fd)
    (G : FnOk P w K mg base CX0 12 g fdg ["page", "style"] (spStr K cs)) (kp : PySem.W.keepIn K (.ref g) = true) (bd : Binds K fdg ["page", "style"] []) (mgg : mg "stretches" = some (.ref g)) : FnOk P w K mg base CX0 13 f fd ["page", "style"] (spCC K cs) := by
  refine F.ok sc_cc (fun vs H Q E h => ?_) (fun cdv A outer s H vs Q E hr h => ?_)
  · obtain ⟨a, st, as, rows, gap, least, rfl, _⟩ := h
    rfl
  · obtain ⟨a, st, as, rows, gap, least, rfl, hT, hP, hO, hS, k⟩ := h
    have nd := sc_cc.nd
    refine ⟨_, pss_cons (ps_set (i := 2) nd rfl (.inl rfl) (pe_call G hr (by rfl) mgg kp bd .nil pass0 (pa_cons (pv 0) (pa_cons (pv 1) pa_nil))))
      (pss_cons (ps_setLc (i := 3) (own := [("row", 11)]) (g := gName 11) rfl nd rfl rfl (sw_true rfl rfl rfl (by decide +kernel)) (pi_list (pv 0)) (blkOk_by (own := [("row", 11)]) (N := nmCC) (sc := defScope s_closed_cells) (by decide +kernel))
        (fun _ _ _ _ _ => pg_name (i := 11) nd rfl (Or.inl rfl)) (fun _ _ _ _ _ => pts_nil) (fun _ _ _ _ _ => pe_lst pa_nil))
      (pss_cons (ps_for PassesOwn.never rfl (pi_list (pv 2)) (pg_tup rfl (pgs_cons (pg_name (i := 4) nd rfl (.inl rfl)) (pgs_cons (pg_name (i := 5) nd rfl (.inl rfl)) (pgs_cons (pg_name (i := 6) nd rfl (.inl rfl)) (pgs_cons (pg_name (i := 7) nd rfl (.inl rfl)) (pgs_cons (pg_name (i := 8) nd rfl (.inl rfl)) (pgs_cons (pg_name (i := 9) nd rfl (.inl rfl)) pgs_nil)))))))
        (pss_one (ps_for PassesOwn.never rfl (pi_range2 (by rfl) T.range (pa_cons (pv 5) (pa_cons (pv 6) pa_nil))) (pg_name (i := 10) nd rfl (.inl rfl))
          (pss_one (ps_expr (pe_bm PySem.F.plainAttrs_list PySem.F.slot_list_append PySem.F.type_list_append mt_append (pe_ix ix_list (pv 3) (pv 10) (fun _ _ => rfl)) (pa_cons (pe_tup (pa_cons (pv 7) (pa_cons (pv 8) pa_nil))) pa_nil)))))))
      (pss_one (ps_ret (pv 3))))), ?_⟩
    have ll := hO.len
    have szl : (1000 : Nat) < sizeLine := by decide
    have las : (as.map V.ref).length = rows.length := by rw [List.length_map, hP.len]
    refine ⟨_, rfl, _, rfl, a, st, as, rows, gap, least, rfl, hT, hP, hO, hS, fun r ts hs H1 x1 nr nts nhs hr1 ds => ?_⟩
    have hT1 := x1.tab
    refine ⟨_, rfl, a, rfl, ⟨_, x1.sqL hP.lst⟩, fun D nD => lc_list (xs := as.map V.ref) (fun i H' => ∃ ls : List Addr, Ex cs H1 H' ∧ H' D = some (.lst (ls.map V.ref)) ∧ ls.length = i ∧ ls.Nodup ∧ ∀ l ∈ ls, H1 l = none ∧ l ≠ D ∧ H' l = some (.lst []))
      ⟨[], Ex.laid hT1 nD, upd_same, rfl, List.nodup_nil, fun l h => by simp at h⟩ (fun i H' _ ⟨ls, x, _⟩ => x.sqL (x1.sqL hP.lst)) ?_ ?_⟩
    · rintro i v H2 hv ⟨ls, x2, hD, hl, hn, hf⟩
      have hil : i < as.length := by
        have := (List.getElem?_eq_some_iff.mp hv).1
        rw [List.length_map] at this
        exact this
      refine ⟨rfl, small0, fun p np => ⟨_, by rw [upd_ne (ne_of_none hD np)]; exact hD, by rw [List.length_map, hl]; have := hP.len; omega, ls ++ [p], ?_, by rw [upd_same, List.map_append]; rfl, by rw [List.length_append, hl]; rfl, ?_, fun l h => ?_⟩⟩
      · exact ex_new hT1 (x2.trans (Ex.laid x2.tab np)) nD
      · refine List.nodup_append.mpr ⟨hn, by simp, fun u hu v hv e => ?_⟩
        rw [List.mem_singleton.mp hv] at e
        have := (hf u hu).2.2
        rw [e, np] at this
        cases this
      · have pD : p ≠ D := fun z => by rw [z, hD] at np; cases np
        rcases List.mem_append.mp h with z | z
        · obtain ⟨h1, h2, h3⟩ := hf l z
          exact ⟨h1, h2, by rw [upd_ne h2, upd_ne (ne_of_none h3 np)]; exact h3⟩
        · rw [List.mem_singleton.mp z]
          exact ⟨x2.old _ np, pD, by rw [upd_ne pD, upd_same]⟩
    · rintro H2 ⟨ls, x2, hD, hl, hn, hf⟩
      rw [las] at hl
      have hnd : ∀ (i j : Nat) (l m : Addr), ls[i]? = some l → ls[j]? = some m → i ≠ j → l ≠ m := fun i j l m h1 h2 h3 e => by
        subst e
        exact h3 (nd_ix hn h1 h2)
      refine ⟨_, rfl, r, rfl, ⟨_, SqL.of (x2.lst hr1)⟩, for_list (xs := ts.map V.ref) (fun j σ H' => ∃ c4 c5 c6 c7 c8 c9 c10 : Option V, σ = [some (.ref a), some (.ref st), some (.ref r), some (.ref D), c4, c5, c6, c7, c8, c9, c10, none] ∧ Ex cs H1 H' ∧ H' D = some (.lst (ls.map V.ref)) ∧ ∀ (i : Nat) (l : Addr), ls[i]? = some l → CellsAt H' rows gap least i (cntB rows j i) l)
        ⟨_, _, _, _, _, _, _, rfl, x2, hD, fun i l h => ⟨[], (hf l (List.mem_of_getElem? h)).2.2, rfl, fun c t h => by simp at h⟩⟩ (fun j σ H' _ ⟨_, _, _, _, _, _, _, _, x, _⟩ => SqL.of (x.lst hr1)) ?_ ?_⟩
      · rintro j v σ H3 hv ⟨c4, c5, c6, c7, c8, c9, c10, rfl, x3, hD3, hC⟩
        obtain ⟨t, ht, rfl⟩ := get_map hv
        have hjt := (List.getElem?_eq_some_iff.mp ht).1
        obtain ⟨q, hq⟩ := getP (xs := entB rows) (i := j) (by rw [← ds.len]; exact hjt)
        obtain ⟨hh, hhh⟩ := getP (xs := hs) (i := j) (by rw [ds.len2, ← ds.len]; exact hjt)
        have dt := x3.tup (ds.at_ j t hh q ht hhh hq).1
        refine ⟨t, _, rfl, .inl (.inl dt), rfl, _, _, rfl, _, _, rfl, _, _, rfl, _, _, rfl, _, _, rfl, _, _, rfl, rfl, ?_⟩
        refine ⟨_, rfl, _, rfl, (q.2.1 : Int), (q.2.2 : Int), rfl, ?_⟩
        obtain ⟨q1, q2⟩ := ent_le hq
        refine ⟨by omega, for_range (lo := (q.2.1 : Int)) (n := ((q.2.2 : Int) - (q.2.1 : Int)).toNat) (fun k σ H' => ∃ c10 : Option V, σ = [some (.ref a), some (.ref st), some (.ref r), some (.ref D), some (.int (q.1 : Nat)), some (.int (q.2.1 : Nat)), some (.int (q.2.2 : Nat)), some (.int (widthB (cellsB rows q.1 q.2.1 q.2.2) gap least)), some (.bl (rightB (cellsB rows q.1 q.2.1 q.2.2))), some (.ref hh), c10, none] ∧ Ex cs H1 H' ∧ H' D = some (.lst (ls.map V.ref)) ∧
          ∀ (i : Nat) (l : Addr), ls[i]? = some l → CellsAt H' rows gap least i (cntB rows j i + if q.2.1 ≤ i ∧ i < q.2.1 + k then 1 else 0) l)
          ⟨_, rfl, x3, hD3, fun i l h => by rw [if_neg (by omega)]; exact hC i l h⟩ ?_ ?_⟩
        · rintro k σ H4 hk ⟨c10, rfl, x4, hD4, hC4⟩
          have hx : q.2.1 + k < q.2.2 := by omega
          obtain ⟨l, hl1⟩ := getP (xs := ls) (i := q.2.1 + k) (by omega)
          obtain ⟨hln, hlD, _⟩ := hf l (List.mem_of_getElem? hl1)
          have hcl := hC4 _ l hl1
          rw [if_neg (by omega), Nat.add_zero] at hcl
          obtain ⟨us, u1, u2, u3⟩ := hcl
          have hcov : covB (q.2.1 + k) q = true := decide_eq_true ⟨by omega, hx⟩
          obtain ⟨v1, v2, v3⟩ := cnt_yes hO hq hcov
          have v4 := ncl_le hO (q.2.1 + k)
          refine ⟨_, rfl, _, rfl, D, _, ((q.2.1 + k : Nat) : Int), .ref l, rfl, rfl, SqL.of hD4, atI_nat (by rw [List.getElem?_map, hl1]; rfl), .inl ⟨rfl, _, SqL.of u1⟩, _, rfl, _, rfl, line10 (by show 2 ≤ 1000; decide), fun t0 nt0 => ⟨l, us.map V.ref, .ref t0, rfl, rfl, by rw [upd_ne (ne_of_none u1 nt0)]; exact u1, by rw [List.length_map, u2]; omega, ?_⟩⟩
          have x5 := Ex.laid (o := .tup [.int (widthB (cellsB rows q.1 q.2.1 q.2.2) gap least), .bl (rightB (cellsB rows q.1 q.2.1 q.2.2))]) x4.tab nt0
          have lt0 : l ≠ t0 := ne_of_none u1 nt0
          have u1' := x5.lst u1
          refine ⟨_, rfl, ex_new hT1 (x4.trans x5) hln, by rw [upd_ne hlD.symm]; exact x5.lst hD4, fun i m h => ?_⟩
          by_cases e : i = q.2.1 + k
          · subst e
            rw [hl1] at h
            cases h
            rw [if_pos (by omega)]
            refine ⟨us ++ [t0], by rw [upd_same, List.map_append]; rfl, by rw [List.length_append, u2]; rfl, fun c t h => ?_⟩
            by_cases hc : c < us.length
            · rw [List.getElem?_append_left hc] at h
              have := x5.tup (u3 c t h)
              rw [upd_ne (ne_of this u1' (by intro z; cases z))]
              exact this
            · have hl := (List.getElem?_eq_some_iff.mp h).1
              rw [List.length_append, List.length_singleton] at hl
              have ec : c = us.length := by omega
              subst ec
              rw [List.getElem?_append_right (Nat.le_refl _), Nat.sub_self] at h
              cases h
              rw [upd_ne lt0.symm, upd_same, u2]
              have e1 : q.1 = cntB rows j (q.2.1 + k) := congrArg (fun z : Nat × Nat × Nat => z.1) v2
              have e2 : q.2.1 = loB rows (cntB rows j (q.2.1 + k)) (q.2.1 + k) := congrArg (fun z : Nat × Nat × Nat => z.2.1) v2
              have e3 : q.2.2 = hiB rows (cntB rows j (q.2.1 + k)) (q.2.1 + k) := congrArg (fun z : Nat × Nat × Nat => z.2.2) v2
              unfold wB rB
              rw [← e2, ← e3, ← e1]
          · have hne := hnd _ _ _ _ h hl1 e
            have hm := (hC4 i m h).ext x5.ext
            have ee : (if q.2.1 ≤ i ∧ i < q.2.1 + (k + 1) then 1 else 0) = (if q.2.1 ≤ i ∧ i < q.2.1 + k then 1 else 0) := by
              by_cases z : q.2.1 ≤ i ∧ i < q.2.1 + k
              · rw [if_pos z, if_pos (by omega)]
              · rw [if_neg z, if_neg (by omega)]
            rw [ee]
            exact hm.upd u1' hne
        · rintro σ H4 ⟨c10, rfl, x4, hD4, hC4⟩
          refine ⟨_, _, _, _, _, _, _, rfl, x4, hD4, fun i l h => ?_⟩
          have := hC4 i l h
          by_cases z : q.2.1 ≤ i ∧ i < q.2.2
          · rw [if_pos (by omega)] at this
            rw [(cnt_yes hO hq (decide_eq_true z)).1]
            exact this
          · rw [if_neg (by omega)] at this
            rw [cnt_no hq (decide_eq_false z)]
            exact this
      · rintro σ H3 ⟨c4, c5, c6, c7, c8, c9, c10, rfl, x3, hD3, hC⟩
        refine ⟨_, rfl, k D ls H3 (x1.trans x3) (x1.old _ nD) (fun l h => x1.old _ (hf l h).1) hD3 hl fun i l h => ?_⟩
        have := hC i l h
        rw [List.length_map, ds.len, cnt_all hO] at this
        exact this
end
end TG
namespace TG
open PySem L2 Gx
theorem at_last {α : Type} {xs : List α} {x : α} : atI (xs ++ [x]) (-1) = some x := by
  unfold atI ixN
  rw [if_neg (by omega), List.length_append, List.length_singleton, if_pos (by omega)]
  show (xs ++ [x])[((-1 : Int) + ((xs.length + 1 : Nat) : Int)).toNat]? = some x
  rw [show ((-1 : Int) + ((xs.length + 1 : Nat) : Int)).toNat = xs.length by omega, List.getElem?_append_right (Nat.le_refl _), Nat.sub_self]
  rfl
theorem lefts_last (rows : List (List Str)) (gap least : Int) (i : Nat) : ∀ n, ∃ xs, leftsB rows gap least i n = xs ++ [leftB rows gap least i n]
  | 0 => ⟨[], rfl⟩
  | n + 1 => ⟨leftsB rows gap least i n, lefts_snoc rows gap least i n⟩
theorem lefts_at (rows : List (List Str)) (gap least : Int) (i n : Nat) : atI ((leftsB rows gap least i n).map V.int) (-1) = some (V.int (leftB rows gap least i n)) := by
  obtain ⟨xs, e⟩ := lefts_last rows gap least i n
  rw [e, List.map_append]
  exact at_last
/-- the list at r holds lists of numbers, f tells them -/
structure ToldAt (H : Hp) (r : Addr) (es : List Addr) (f : Nat → List Int) (n : Nat) : Prop where
  lst : H r = some (.lst (es.map V.ref))
  len : es.length = n
  nd : es.Nodup
  at_ : ∀ (i : Nat) (e : Addr), es[i]? = some e → H e = some (.lst ((f i).map V.int))
theorem ToldAt.ext {H H' : Hp} {r : Addr} {es : List Addr} {f : Nat → List Int} {n : Nat} (t : ToldAt H r es f n) (x : LamX.ExtN H H') : ToldAt H' r es f n :=
  ⟨x _ _ t.lst (by intro ps z; cases z), t.len, t.nd, fun i e h => x _ _ (t.at_ i e h) (by intro ps z; cases z)⟩
theorem tabs_ext {cs : List (Addr × Addr)} {H H' : Hp} (t : Tabs cs H) (x : Same H H') : Tabs cs H' := fun p hp => let ⟨ps, h1, h2⟩ := t p hp; ⟨ps, x _ _ h1, h2⟩
theorem same_ext {H H' : Hp} (x : Same H H') : LamX.ExtN H H' := fun b o e _ => x b o e
theorem ex_same {cs : List (Addr × Addr)} {H H' : Hp} (t : Tabs cs H) (x : Same H H') : Ex cs H H' := ⟨same_ext x, tabs_ext t x, fun _ n => same_old x n, fun b o e _ => x b o e⟩
theorem ToldAt.add {H H' : Hp} {r : Addr} {es : List Addr} {f : Nat → List Int} {n : Nat} {e : Addr} (t : ToldAt H r es f n) (x : LamX.ExtN H H') (he : H e = none) (h' : H' e = some (.lst ((f n).map V.int))) (hr : r ∉ es) :
    ToldAt (upd H' r (.lst (es.map V.ref ++ [.ref e]))) r (es ++ [e]) f (n + 1) := by
  refine ⟨by rw [upd_same, List.map_append]; rfl, by rw [List.length_append, t.len]; rfl, ?_, fun i u h => ?_⟩
  · refine List.nodup_append.mpr ⟨t.nd, by simp, fun u hu v hv q => ?_⟩
    rw [List.mem_singleton.mp hv] at q
    obtain ⟨i, hi, e1⟩ := List.getElem_of_mem hu
    have := t.at_ i u (by rw [List.getElem?_eq_getElem hi, e1])
    rw [q, he] at this
    cases this
  · have re : e ≠ r := fun z => by rw [z, t.lst] at he; cases he
    by_cases hi : i < es.length
    · rw [List.getElem?_append_left hi] at h
      rw [upd_ne (fun z => hr (by rw [← z]; exact List.mem_of_getElem? h))]
      exact x _ _ (t.at_ i u h) (by intro ps z; cases z)
    · have hl := (List.getElem?_eq_some_iff.mp h).1
      rw [List.length_append, List.length_singleton] at hl
      have e1 : i = es.length := by omega
      subst e1
      rw [List.getElem?_append_right (Nat.le_refl _), Nat.sub_self] at h
      cases h
      rw [upd_ne re, h', t.len]
section
variable {P : Program} {w : World} {K : PySem.W.Frag} {mg : Str → Option Value} {base : Heap} {cs : List (Addr × Addr)}
def spLE : Sp := fun vs H Q _ => ∃ (l : Addr) (rows : List (List Str)) (gap least : Int) (i n : Nat), vs = [.ref l] ∧ CellsAt H rows gap least i n l ∧ n ≤ 5 ∧
  ∀ (p : Addr) (H' : Hp), Same H H' → H p = none → H' p = some (.lst ((leftsB rows gap least i n).map V.int)) → Q (.ref p) H'
abbrev nmLE : List Str := ["closed", "ends", "width", "right"]
theorem sc_le : FnScope nmLE ["closed"] (defScope s_left_ends) := ⟨rfl, rfl, rfl, by decide +kernel, rfl, by decide +kernel, by decide +kernel⟩
theorem ok_le {f : Addr} {fd : FuncData} (F : Fun K "left_ends" "left_ends" s_left_ends f fd) : FnOk P w K mg base CX0 1 f fd ["closed"] spLE := by
  refine F.ok sc_le (fun vs H Q E h => ?_) (fun cdv A outer s H vs Q E hr h => ?_)
  · obtain ⟨l, rows, gap, least, i, n, rfl, _⟩ := h
    rfl
  · obtain ⟨l, rows, gap, least, i, n, rfl, ⟨ts, h1, h2, h3⟩, n5, k⟩ := h
    have nd := sc_le.nd
    refine ⟨_, pss_cons (ps_set (i := 1) nd rfl (.inl rfl) (pe_lst (pa_cons pe_int pa_nil)))
      (pss_cons (ps_for PassesOwn.never rfl (pi_list (pv 0)) (pg_tup rfl (pgs_cons (pg_name (i := 2) nd rfl (.inl rfl)) (pgs_cons (pg_name (i := 3) nd rfl (.inl rfl)) pgs_nil)))
        (pss_one (ps_expr (pe_bm PySem.F.plainAttrs_list PySem.F.slot_list_append PySem.F.type_list_append mt_append (pv 1) (pa_cons (pe_op op_add (pe_ix ix_list (pv 1) (pe_un un_neg pe_int) (fun _ _ => rfl)) (pv 2)) pa_nil)))))
      (pss_one (ps_ret (pv 1)))), ?_⟩
    have szl : (1000 : Nat) < sizeLine := by decide
    refine ⟨line10 (by show 1 ≤ 1000; decide), fun p np => ⟨_, rfl, l, rfl, ⟨_, SqL.of (by rw [upd_ne (ne_of_none h1 np)]; exact h1)⟩, for_list (xs := ts.map V.ref) (fun j σ H' => ∃ c2 c3 : Option V, σ = [some (.ref l), some (.ref p), c2, c3] ∧ Same H H' ∧ H' p = some (.lst ((leftsB rows gap least i j).map V.int)))
      ⟨_, _, rfl, same_new np, upd_same⟩ (fun j σ H' _ ⟨_, _, _, x, _⟩ => SqL.of (x _ _ h1)) ?_ ?_⟩⟩
    · rintro j v σ H1 hv ⟨c2, c3, rfl, x1, hp⟩
      obtain ⟨t, ht, rfl⟩ := get_map hv
      have hj := (List.getElem?_eq_some_iff.mp ht).1
      refine ⟨t, _, rfl, .inl (.inl (x1 _ _ (h3 j t ht))), rfl, _, _, rfl, _, _, rfl, rfl, ?_⟩
      refine ⟨_, rfl, .inl ⟨rfl, _, SqL.of hp⟩, _, rfl, 1, rfl, p, _, -1, _, rfl, rfl, SqL.of hp, lefts_at .., _, rfl, _, _, rfl, rfl, p, _, _, rfl, rfl, hp, by rw [List.length_map, lefts_len]; omega, ⟨_, _, rfl, same_upd x1 np, ?_⟩⟩
      rw [upd_same, lefts_snoc, List.map_append]
      rfl
    · rintro σ H1 ⟨c2, c3, rfl, x1, hp⟩
      rw [List.length_map, h2] at hp
      exact ⟨_, rfl, k p H1 x1 np hp⟩
/-- a list of lists of numbers, a row each -/
def spTold (K : PySem.W.Frag) (cs : List (Addr × Addr)) (f : List (List Str) → Int → Int → Nat → List Int) : Sp := fun vs H Q _ => ∃ (a st : Addr) (as : List Addr) (rows : List (List Str)) (gap least : Int), vs = [.ref a, .ref st] ∧ Tabs cs H ∧ PageAt K H a as rows ∧ PgOk rows ∧ StyleAt K H st gap least ∧
  ∀ (r : Addr) (es : List Addr) (H' : Hp), Ex cs H H' → H r = none → (∀ e ∈ es, H e = none ∧ e ≠ r) → ToldAt H' r es (f rows gap least) rows.length → Q (.ref r) H'
end
end TG
namespace TG
open PySem L2 Gx
def lenC (rows : List (List Str)) (i c : Nat) : Int := (((rows.getD i []).getD c nilS).length : Nat)
/-- the begins of row i when the first j closed cells have been looked at -/
def begC (rows : List (List Str)) (gap least : Int) (i j c : Nat) : Int := if c < j ∧ rB rows i c = true then leftB rows gap least i (c + 1) - gap - lenC rows i c else leftB rows gap least i c
def begsTo (rows : List (List Str)) (gap least : Int) (i j : Nat) : List Int := (List.range (ncl rows i + 1)).map (begC rows gap least i j)
def begsR (rows : List (List Str)) (gap least : Int) (i : Nat) : List Int := begsTo rows gap least i (ncl rows i)
theorem begs_zero (rows : List (List Str)) (gap least : Int) (i : Nat) : begsTo rows gap least i 0 = leftsB rows gap least i (ncl rows i) := by
  unfold begsTo leftsB
  refine List.map_congr_left fun c _ => ?_
  unfold begC
  rw [if_neg (by omega)]
theorem begs_len (rows : List (List Str)) (gap least : Int) (i j : Nat) : (begsTo rows gap least i j).length = ncl rows i + 1 := by
  unfold begsTo
  rw [List.length_map, List.length_range]
theorem begs_no {rows : List (List Str)} {gap least : Int} {i j : Nat} (h : rB rows i j = false) : begsTo rows gap least i (j + 1) = begsTo rows gap least i j := by
  unfold begsTo
  refine List.map_congr_left fun c _ => ?_
  unfold begC
  by_cases e : c = j
  · subst e
    rw [if_neg (fun z => by rw [h] at z; cases z.2), if_neg (by omega)]
  · by_cases q : c < j ∧ rB rows i c = true
    · rw [if_pos q, if_pos ⟨by omega, q.2⟩]
    · rw [if_neg q, if_neg (fun z => q ⟨by omega, z.2⟩)]
theorem begs_yes {rows : List (List Str)} {gap least : Int} {i j : Nat} (hj : j < ncl rows i) (h : rB rows i j = true) : (begsTo rows gap least i j).set j (leftB rows gap least i (j + 1) - gap - lenC rows i j) = begsTo rows gap least i (j + 1) := by
  apply List.ext_getElem?
  intro c
  rw [List.getElem?_set]
  have e1 : ∀ j, (begsTo rows gap least i j)[c]? = if c < ncl rows i + 1 then some (begC rows gap least i j c) else none := fun j => by
    unfold begsTo
    rw [List.getElem?_map]
    by_cases q : c < ncl rows i + 1
    · rw [List.getElem?_range q, if_pos q]; rfl
    · rw [List.getElem?_eq_none (by rw [List.length_range]; omega), if_neg q]; rfl
  by_cases e : j = c
  · subst e
    rw [if_pos rfl, if_pos (by rw [begs_len]; omega), e1, if_pos (by omega)]
    unfold begC
    rw [if_pos ⟨Nat.lt_succ_self _, h⟩]
  · rw [if_neg e, e1, e1]
    have : begC rows gap least i (j + 1) c = begC rows gap least i j c := by
      unfold begC
      by_cases q : c < j ∧ rB rows i c = true
      · rw [if_pos q, if_pos ⟨by omega, q.2⟩]
      · rw [if_neg q, if_neg (fun z => q ⟨by omega, z.2⟩)]
    rw [this]
theorem set_map {α β : Type} {f : α → β} {xs : List α} {i : Nat} {x : α} : (xs.map f).set i (f x) = (xs.set i x).map f := by
  rw [List.map_set]
section
variable {P : Program} {w : World} {K : PySem.W.Frag} {mg : Str → Option Value} {base : Heap} {cs : List (Addr × Addr)}
def spBO (K : PySem.W.Frag) : Sp := fun vs H Q _ => ∃ (a l : Addr) (rows : List (List Str)) (gap least : Int) (i : Nat) (r : List Str), vs = [.ref a, .ref l, .int gap] ∧ rows[i]? = some r ∧ PgOk rows ∧ SqT K H a (sV r) ∧ CellsAt H rows gap least i (ncl rows i) l ∧
  ∀ (p : Addr) (H' : Hp), Same H H' → H p = none → H' p = some (.lst ((begsR rows gap least i).map V.int)) → Q (.ref p) H'
abbrev nmBO : List Str := ["row", "closed", "gap", "ends", "begins", "number", "width", "right"]
theorem sc_bo : FnScope nmBO ["row", "closed", "gap"] (defScope s_begins_of) := ⟨rfl, rfl, rfl, by decide +kernel, rfl, by decide +kernel, by decide +kernel⟩
theorem ok_bo {f g : Addr} {fd fdg : FuncData} (T : Txt mg) (F : Fun K "begins_of" "begins_of" s_begins_of f fd)
    (G : FnOk P w K mg base CX0 1 g fdg ["closed"] spLE) (kp : PySem.W.keepIn K (.ref g) = true) (bd : Binds K fdg ["closed"] []) (mgg : mg "left_ends" = some (.ref g)) : FnOk P w K mg base CX0 2 f fd ["row", "closed", "gap"] (spBO K) := by
  refine F.ok sc_bo (fun vs H Q E h => ?_) (fun cdv A outer s H vs Q E hr h => ?_)
  · obtain ⟨a, l, rows, gap, least, i, r, rfl, _⟩ := h
    rfl
  · obtain ⟨a, l, rows, gap, least, i, r, rfl, hr2, hO, hA, hC, k⟩ := h
    have nd := sc_bo.nd
    refine ⟨_, pss_cons (ps_set (i := 3) nd rfl (.inl rfl) (pe_call G hr (by rfl) mgg kp bd .nil pass0 (pa_cons (pv 1) pa_nil)))
      (pss_cons (ps_set (i := 4) nd rfl (.inl rfl) (pe_callTy call_list_of (by rfl) T.list (by decide +kernel) (pa_cons (pv 3) pa_nil)))
      (pss_cons (ps_for PassesOwn.never rfl (pi_enum (by rfl) T.enum (pa_cons (pv 1) pa_nil)) (pg_tup rfl (pgs_cons (pg_name (i := 5) nd rfl (.inl rfl)) (pgs_cons (pg_tup rfl (pgs_cons (pg_name (i := 6) nd rfl (.inl rfl)) (pgs_cons (pg_name (i := 7) nd rfl (.inl rfl)) pgs_nil))) pgs_nil)))
        (pss_one (ps_if (pt_val (pv 7)) (pss_one (ps_asg (pe_op op_sub (pe_op op_sub (pe_ix ix_list (pv 3) (pe_op op_add (pv 5) pe_int) (fun _ _ => rfl)) (pv 2)) (pe_callB call_len_str (by rfl) T.len PySem.boot_len (pa_cons (pe_ix ix_tup (pv 0) (pv 5) (fun _ _ => rfl)) pa_nil))) (pg_sub (pv 4) (pv 5) set_list))) pss_nil)))
      (pss_one (ps_ret (pv 4))))), ?_⟩
    have szl : (1000 : Nat) < sizeLine := by decide
    have n5 := ncl_le hO i
    have hrO := hO.rows r (List.mem_of_getElem? hr2)
    have hnc : ncl rows i = r.length - 1 := by unfold ncl; rw [hr2]
    refine ⟨_, rfl, l, rows, gap, least, i, ncl rows i, rfl, hC, n5, fun e H1 x1 ne he => ⟨_, rfl, e, _, rfl, .inl (SqL.of he), fun b nb => ?_⟩⟩
    obtain ⟨ts, h1, h2, h3⟩ := hC
    have x2 : Same H (upd H1 b (.lst ((leftsB rows gap least i (ncl rows i)).map V.int))) := same_trans x1 (same_new nb)
    have eb : e ≠ b := ne_of_none he nb
    have nb0 := same_old x1 nb
    refine ⟨_, rfl, l, _, rfl, SqL.of (x2 _ _ h1), for_it (walk_enum (xs := ts.map V.ref)) (fun j σ H' => ∃ c5 c6 c7 : Option V, σ = [some (.ref a), some (.ref l), some (.int gap), some (.ref e), some (.ref b), c5, c6, c7] ∧ Same H H' ∧ H' e = some (.lst ((leftsB rows gap least i (ncl rows i)).map V.int)) ∧ H' b = some (.lst ((begsTo rows gap least i j).map V.int)))
      ⟨_, _, _, rfl, x2, by rw [upd_ne eb]; exact he, by rw [upd_same, begs_zero]⟩ (fun j σ H' _ ⟨_, _, _, _, x, _⟩ => SqL.of (x _ _ h1)) ?_ ?_⟩
    · rintro j x σ H3 H4 hi ⟨c5, c6, c7, rfl, x3, he3, hb3⟩ ⟨Tp, v, u, rfl, hn, rfl, hv, hu⟩
      cases hv
      obtain ⟨t, ht, rfl⟩ := get_map hu
      have hj := (List.getElem?_eq_some_iff.mp ht).1
      have x4 : Same H3 (upd H3 Tp (.tup [.int (j : Nat), .ref t])) := same_new hn
      generalize hH4 : upd H3 Tp (.tup [.int (j : Nat), .ref t]) = H4 at x4 ⊢
      have hTp : H4 Tp = some (.tup [.int (j : Nat), .ref t]) := by rw [← hH4, upd_same]
      have x34 := same_trans x3 x4
      have he4 := x4 _ _ he3
      have hb4 := x4 _ _ hb3
      refine ⟨Tp, _, rfl, .inl (.inl hTp), rfl, _, _, rfl, _, _, rfl, t, _, rfl, .inl (.inl (x34 _ _ (h3 j t ht))), rfl, _, _, rfl, _, _, rfl, rfl, rfl, ?_⟩
      refine ⟨_, rfl, rB rows i j, rfl, ?_⟩
      cases hrb : rB rows i j with
      | false => exact iteF ⟨_, _, _, rfl, x34, he4, by rw [begs_no hrb]; exact hb4⟩
      | true =>
        have hjr : j < r.length := by omega
        have ec : lenC rows i j = (((r[j]'hjr).length : Nat) : Int) := by
          unfold lenC
          rw [show rows.getD i [] = r by rw [List.getD_eq_getElem?_getD, hr2]; rfl, List.getD_eq_getElem?_getD, List.getElem?_eq_getElem hjr]
          rfl
        have zl := (hrO.cells _ (List.getElem_mem hjr)).len
        refine iteT ⟨_, rfl, _, rfl, j, 1, rfl, rfl, e, _, ((j + 1 : Nat) : Int), _, rfl, rfl, SqL.of he4, atI_nat (by rw [List.getElem?_map, lefts_get (by omega)]; rfl), _, rfl, _, _, rfl, rfl, _, rfl, _, rfl, a, _, j, _, rfl, rfl, same_sqT x34 hA, atI_nat (by rw [List.getElem?_map, List.getElem?_eq_getElem hjr]; rfl), _, rfl, line10 (by omega), _, _, rfl, rfl, _, rfl, _, rfl, b, _, j, j, rfl, rfl, hb4, ?_, ⟨_, _, _, rfl, same_upd x34 nb0, by rw [upd_ne eb]; exact he4, ?_⟩⟩
        · rw [List.length_map, begs_len]
          unfold ixN
          rw [if_pos (by omega), if_pos (by omega)]
          rfl
        · rw [upd_same, set_map, ← ec, begs_yes (by omega) hrb]
    · rintro σ H3 ⟨c5, c6, c7, rfl, x3, he3, hb3⟩
      rw [List.length_map, h2] at hb3
      exact ⟨_, rfl, k b H3 x3 nb0 hb3⟩
end
end TG
namespace TG
open PySem L2 Gx
section
variable {P : Program} {w : World} {K : PySem.W.Frag} {mg : Str → Option Value} {base : Heap} {cs : List (Addr × Addr)}
abbrev nmLaid : List Str := ["page", "style", "rows", "gap", "row", "closed"]
theorem sc_laid : FnScope nmLaid ["page", "style"] (defScope s_laid) := ⟨rfl, rfl, rfl, by decide +kernel, rfl, by decide +kernel, by decide +kernel⟩
theorem ok_laid {f g g2 : Addr} {fd fdg fd2 : FuncData} (hz : mg "zip" = none) (F : Fun K "laid" "laid" s_laid f fd)
    (G : FnOk P w K mg base CX0 13 g fdg ["page", "style"] (spCC K cs)) (kp : PySem.W.keepIn K (.ref g) = true) (bd : Binds K fdg ["page", "style"] []) (mgg : mg "closed_cells" = some (.ref g))
    (G2 : FnOk P w K mg base CX0 2 g2 fd2 ["row", "closed", "gap"] (spBO K)) (kp2 : PySem.W.keepIn K (.ref g2) = true) (bd2 : Binds K fd2 ["row", "closed", "gap"] []) (mg2 : mg "begins_of" = some (.ref g2)) : FnOk P w K mg base CX0 14 f fd ["page", "style"] (spTold K cs begsR) := by
  refine F.ok sc_laid (fun vs H Q E h => ?_) (fun cdv A outer s H vs Q E hr h => ?_)
  · obtain ⟨a, st, as, rows, gap, least, rfl, _⟩ := h
    rfl
  · obtain ⟨a, st, as, rows, gap, least, rfl, hT, hP, hO, hS, k⟩ := h
    have nd := sc_laid.nd
    have hr2 : Room 2 _ := hr.mono (by decide)
    refine ⟨_, pss_cons (ps_set (i := 2) nd rfl (.inl rfl) (pe_call G hr (by rfl) mgg kp bd .nil pass0 (pa_cons (pv 0) (pa_cons (pv 1) pa_nil))))
      (pss_cons (ps_set (i := 3) nd rfl (.inr rfl) (pe_ix ix_tup (pv 1) pe_int (fun _ _ => rfl)))
      (pss_one (ps_ret (pe_lc (own := [("row", 4), ("closed", 5)]) (g := gTup K 2 (gCons (gName 4) (gCons (gName 5) gNil))) (tt := tYes) rfl nd (pi_zip (by rfl) hz (pa_cons (pv 0) (pa_cons (pv 2) pa_nil))) (blkOk_by (own := [("row", 4), ("closed", 5)]) (N := nmLaid) (sc := defScope s_laid) (by decide +kernel))
        (fun _ _ _ _ _ => pg_tup rfl (pgs_cons (pg_name (i := 4) nd rfl (.inl rfl) (.inr rfl)) (pgs_cons (pg_name (i := 5) nd rfl (.inl rfl) (.inr rfl)) pgs_nil))) (fun _ _ _ _ _ => pts_nil) (fun s1 H1 C1 cl1 fp1 => pe_call G2 hr2 (by rfl) mg2 kp2 bd2 .nil pass0 (pa_cons (pv 4) (pa_cons (pv 5) (pa_cons (pv 3) pa_nil)))))))), ?_⟩
    have ll := hO.len
    have szl : (1000 : Nat) < sizeLine := by decide
    refine ⟨_, rfl, _, rfl, a, st, as, rows, gap, least, rfl, hT, hP, hO, hS, fun r ls H1 x1 nr nls hr1 hll hC => ⟨_, rfl, st, _, 0, .int gap, rfl, rfl, x1.sqT hS.tup, at0, _, rfl, _, rfl, a, r, _, _, rfl, x1.sqL hP.lst, SqL.of hr1, fun D nD => lc_it (walk_zip (xs := as.map V.ref) (ys := ls.map V.ref) (n := rows.length) (by rw [List.length_map, List.length_map, hP.len, hll, Nat.min_self])) (fun i H' => ∃ es : List Addr, Ex cs H1 H' ∧ ToldAt H' D es (begsR rows gap least) i ∧ ∀ e ∈ es, H1 e = none ∧ e ≠ D)
      ⟨[], Ex.laid x1.tab nD, ⟨upd_same, rfl, List.nodup_nil, fun i e h => by simp at h⟩, fun e h => by simp at h⟩ (fun i H' _ ⟨es, x, _⟩ => ⟨x.sqL (x1.sqL hP.lst), SqL.of (x.lst hr1)⟩) ?_ ?_⟩⟩
    · rintro i v H2 H3 hi ⟨es, x2, t2, f2⟩ ⟨Tp, v1, u, rfl, hn, rfl, hv, hu⟩
      obtain ⟨p, hp, rfl⟩ := get_map hv
      obtain ⟨l, hl, rfl⟩ := get_map hu
      obtain ⟨z, hz2⟩ := getP (xs := rows) (i := i) hi
      have x3 := Ex.laid (o := .tup [.ref p, .ref l]) x2.tab hn
      generalize hH : upd H2 Tp (.tup [.ref p, .ref l]) = H3 at x3 ⊢
      have hTp : H3 Tp = some (.tup [.ref p, .ref l]) := by rw [← hH, upd_same]
      have x23 := x2.trans x3
      refine ⟨Tp, _, rfl, .inl (.inl hTp), rfl, _, _, rfl, _, _, rfl, rfl, rfl, _, rfl, _, rfl, _, rfl, p, l, rows, gap, least, i, z, rfl, hz2, hO, (x1.trans x23).sqT (hP.row i p z hp hz2), (hC i l hl).ext x23.ext, fun q H4 x4 nq hq => ?_⟩
      have t3 := t2.ext x3.ext
      have qD : q ≠ D := fun z => by rw [z, x4 _ _ t3.lst] at hq; have := x4 _ _ t3.lst; rw [← z] at this; rw [z, t3.lst] at nq; cases nq
      refine ⟨_, x4 _ _ t3.lst, by rw [List.length_map, t3.len]; omega, es ++ [q], ex_new x1.tab (x23.trans (ex_same x3.tab x4)) nD, t3.add (same_ext x4) nq hq (fun z => (f2 D z).2 rfl), fun e h => ?_⟩
      rcases List.mem_append.mp h with z | z
      · exact f2 e z
      · rw [List.mem_singleton.mp z]
        exact ⟨x23.old _ nq, qD⟩
    · rintro H2 ⟨es, x2, t2, f2⟩
      exact k D es H2 (x1.trans x2) (x1.old _ nD) (fun e h => ⟨x1.old _ (f2 e h).1, (f2 e h).2⟩) t2
end
end TG
namespace TG
open PySem L2 Gx
theorem ToldAt.go {H H' : Hp} {r : Addr} {es : List Addr} {f : Nat → List Int} {n : Nat} (t : ToldAt H r es f n) (x : Same H H') : ToldAt H' r es f n := t.ext (same_ext x)
section
variable {P : Program} {w : World} {K : PySem.W.Frag} {mg : Str → Option Value} {base : Heap} {cs : List (Addr × Addr)}
theorem StyleAt.same {H H' : Hp} {a : Addr} {gap least : Int} (p : StyleAt K H a gap least) (e : Same H H') : StyleAt K H' a gap least := ⟨same_sqT e p.tup, p.g0, p.g1, p.l0, p.l1⟩
end
end TG
namespace TG
open PySem L2 Gx
theorem ToldAt.congr {H : Hp} {r : Addr} {es : List Addr} {f g : Nat → List Int} {n : Nat} (t : ToldAt H r es f n) (e : ∀ i, i < n → f i = g i) : ToldAt H r es g n :=
  ⟨t.lst, t.len, t.nd, fun i u h => by rw [← e i (by rw [← t.len]; exact (List.getElem?_eq_some_iff.mp h).1)]; exact t.at_ i u h⟩
theorem ToldAt.put {H : Hp} {r : Addr} {es : List Addr} {f : Nat → List Int} {n i : Nat} {e : Addr} {xs : List Int} (t : ToldAt H r es f n) (he : es[i]? = some e) (ne : e ≠ r) : ToldAt (upd H e (.lst (xs.map V.int))) r es (fun k => if k = i then xs else f k) n := by
  refine ⟨by rw [upd_ne ne.symm]; exact t.lst, t.len, t.nd, fun k u h => ?_⟩
  by_cases q : k = i
  · subst q
    rw [he] at h
    cases h
    rw [upd_same, if_pos rfl]
  · rw [if_neg q, upd_ne (fun z => q (nd_ix t.nd h (by rw [z]; exact he)))]
    exact t.at_ k u h
section
variable {P : Program} {w : World} {K : PySem.W.Frag} {mg : Str → Option Value} {base : Heap} {cs : List (Addr × Addr)}
end
end TG
namespace TG
open PySem L2 Gx
def rowsD (rows : List (List Str)) : List PyData := rows.map fun r => .tuple (r.map .str)
theorem dpAll_of {K : PySem.W.Frag} {H : Hp} : ∀ {vs : List V} {ds : List PyData}, vs.length = ds.length → (∀ (i : Nat) (v : V) (d : PyData), vs[i]? = some v → ds[i]? = some d → Dp K H v d) → DpAll K H vs ds
  | [], [], _, _ => .nil
  | [], _ :: _, h, _ => by simp at h
  | _ :: _, [], h, _ => by simp at h
  | v :: vs, d :: ds, h, k => .cons (k 0 v d rfl rfl) (dpAll_of (by simpa using h) fun i v' d' h1 h2 => k (i + 1) v' d' (by simpa using h1) (by simpa using h2))
theorem depthAll_of {m : Nat} : ∀ {ds : List PyData}, (∀ d ∈ ds, d.depth ≤ m) → PyData.depthAll ds ≤ m
  | [], _ => Nat.zero_le _
  | d :: ds, h => by
    simp only [PyData.depthAll]
    have h1 := h d List.mem_cons_self
    have h2 := depthAll_of (m := m) fun e he => h e (List.mem_cons_of_mem _ he)
    omega
theorem dp_rows {K : PySem.W.Frag} {H : Hp} : ∀ {as : List Addr} {rows : List (List Str)}, as.length = rows.length → (∀ (i : Nat) (q : Addr) (r : List Str), as[i]? = some q → rows[i]? = some r → SqT K H q (sV r)) → DpAll K H (as.map V.ref) (rowsD rows)
  | [], [], _, _ => .nil
  | [], _ :: _, h, _ => by simp at h
  | _ :: _, [], h, _ => by simp at h
  | a :: as, r :: rows, h, k => .cons (.tup (k 0 a r rfl rfl) (dp_strs r)) (dp_rows (by simpa using h) fun i q r' h1 h2 => k (i + 1) q r' (by simpa using h1) (by simpa using h2))
theorem canAll_rows : ∀ {rows : List (List Str)}, (∀ r ∈ rows, ∀ z ∈ r, CellOk z) → PyData.canLayAll0 (rowsD rows) = true
  | [], _ => rfl
  | r :: rows, h => by
    show PyData.canLayAll0 (.tuple (r.map .str) :: rowsD rows) = true
    simp only [PyData.canLayAll0, PyData.canLay0, Bool.and_eq_true]
    exact ⟨canAll_strs fun z hz => (h r List.mem_cons_self z hz).sg, canAll_rows fun r' hr => h r' (List.mem_cons_of_mem _ hr)⟩
theorem depthAll_rows : ∀ rows : List (List Str), PyData.depthAll (rowsD rows) ≤ 1
  | [] => Nat.zero_le _
  | r :: rows => by
    show PyData.depthAll (.tuple (r.map .str) :: rowsD rows) ≤ 1
    simp only [PyData.depthAll, PyData.depth, depthAll_strs]
    have := depthAll_rows rows
    omega
theorem can_rows {rows : List (List Str)} (h : PgOk rows) : PyData.canLay0 (.list (rowsD rows)) = true := by
  simp only [PyData.canLay0]
  exact canAll_rows fun r hr z hz => (h.rows r hr).cells z hz
theorem tabs_kb {cs : List (Addr × Addr)} {b l : Addr} {H H' : Hp} (t : Tabs cs H) (B : BoxAt H b l) (x : KB b l H H') : Tabs cs H' := fun p hp => by
  obtain ⟨ps, h1, h2⟩ := t p hp
  obtain ⟨ns, st, e1, e2, _⟩ := B
  exact ⟨ps, x _ _ h1 (ne_of h1 e1 (by intro z; cases z)) (ne_of h1 e2 (by intro z; cases z)), h2⟩
theorem box_ext {b l : Addr} {H H' : Hp} (B : BoxAt H b l) (x : LamX.ExtN H H') : BoxAt H' b l := let ⟨ns, st, h1, h2, h3⟩ := B; ⟨ns, st, x _ _ h1 (by intro ps z; cases z), x _ _ h2 (by intro ps z; cases z), h3⟩
/-- what stands in a turn of the law: the box, the tables, the page and its copy, the style -/
structure PageT (cs : List (Addr × Addr)) (b l p q h : Addr) (as : List Addr) (rows : List (List Str)) (gap least : Int) (H : Hp) : Prop where
  box : BoxAt H b l
  tab : Tabs cs H
  pg : H p = some (.lst (as.map V.ref))
  hd : H h = some (.lst (as.map V.ref))
  al : as.length = rows.length
  row : ∀ (i : Nat) (a : Addr) (z : List Str), as[i]? = some a → rows[i]? = some z → H a = some (.tup (sV z))
  sty : H q = some (.tup [.int gap, .int least])
  g0 : 0 ≤ gap
  g1 : gap ≤ 4
  l0 : 0 ≤ least
  l1 : least ≤ 12
  ok : PgOk rows
theorem PageT.ext {cs : List (Addr × Addr)} {b l p q h : Addr} {as : List Addr} {rows : List (List Str)} {gap least : Int} {H H' : Hp} (t : PageT cs b l p q h as rows gap least H) (x : LamX.ExtN H H') (y : Tabs cs H') : PageT cs b l p q h as rows gap least H' :=
  ⟨box_ext t.box x, y, x _ _ t.pg (by intro ps z; cases z), x _ _ t.hd (by intro ps z; cases z), t.al, fun i a z h1 h2 => x _ _ (t.row i a z h1 h2) (by intro ps z; cases z), x _ _ t.sty (by intro ps z; cases z), t.g0, t.g1, t.l0, t.l1, t.ok⟩
def toldD (f : Nat → List Int) (n : Nat) : PyData := .list ((List.range n).map fun i => .list ((f i).map .int))
theorem dp_told {K : PySem.W.Frag} {H : Hp} {r : Addr} {es : List Addr} {f : Nat → List Int} {n : Nat} (t : ToldAt H r es f n) : Dp K H (.ref r) (toldD f n) := by
  refine .lst (SqL.of t.lst) (dpAll_of (by rw [List.length_map, List.length_map, List.length_range, t.len]) fun i v d h1 h2 => ?_)
  obtain ⟨e, he, rfl⟩ := get_map h1
  obtain ⟨k, hk, rfl⟩ := get_map h2
  have hi : i < n := by
    have := (List.getElem?_eq_some_iff.mp hk).1
    rwa [List.length_range] at this
  rw [List.getElem?_range hi] at hk
  cases hk
  exact .lst (SqL.of (t.at_ i e he)) (dp_ints _)
theorem depth_told (f : Nat → List Int) (n : Nat) : (toldD f n).depth ≤ 2 := by
  unfold toldD
  simp only [PyData.depth]
  refine Nat.succ_le_succ (depthAll_of fun d hd => ?_)
  obtain ⟨i, _, rfl⟩ := List.mem_map.mp hd
  simp only [PyData.depth, depthAll_ints]
  omega
end TG
namespace Zm
open PySem PySem.Spec PyProof.Rows L2
section
variable {P : Program} {w : World} {A : Around} {E : Value → Shared → Prop} {s : Shared} {z TI TO i1 i2 l1 l2 : Addr}
end
end Zm
namespace Zm
open PySem PySem.Spec PyProof.Rows L2
abbrev k1 (h : Heap) (a : Addr) : Heap := h.push { cls := .type "tuple_iterator", data := .fields #[.ref a, .int 0 0] }
abbrev k2 (h : Heap) (a b : Addr) : Heap := (k1 h a).push { cls := .type "list_iterator", data := .fields #[.ref b, .int 0 0] }
abbrev k3 (h : Heap) (a b : Addr) : Heap := (k2 h a b).push { cls := .type "tuple", data := .seq #[.ref h.objs.size, .ref (k1 h a).objs.size] }
abbrev k4 (h : Heap) (a b : Addr) : Heap := (k3 h a b).push { cls := .type "tuple", data := .seq #[.none, .none] }
abbrev k5 (h : Heap) (a b : Addr) : Heap := (k4 h a b).push { cls := .type "zip", data := .fields #[.none, .bool false, .bool false, .ref (k2 h a b).objs.size, .ref (k3 h a b).objs.size] }
theorem made (a b : Addr) (xs ys : Array Value) : Meets (Builtin.«zip.__new__» ⟨[.type "zip", .ref a, .ref b], []⟩) (fun _ R t => t.heap.IsTuple a xs ∧ t.heap.IsList b ys ∧ R (.ok (.ret (.ref (k4 t.heap a b).objs.size))) { t with heap := k5 t.heap a b }) :=
  .of_wp fun P w A R t h => by
    obtain ⟨hp, g, d, tk, os⟩ := t
    obtain ⟨u1, u2, h⟩ := h
    have hsub := sub_zip
    have v1 : Heap.IsTuple (Shared.heap ⟨hp, g, d, tk, os⟩) a xs := u1
    have v2 : Heap.IsList (Shared.heap ⟨hp.push { cls := .type "tuple_iterator", data := .fields #[.ref a, .int 0 0] }, g, d, tk, os⟩) b ys := Heap.IsList.push u2 _
    wp_walk using wpAny_pyIter_tuple v1, wpAny_pyIter_list v2
    exact ⟨_, rfl, h⟩
section
variable {P : Program} {w : World} {A : Around} {E : Value → Shared → Prop} {s : Shared}
end
end Zm
namespace TG
open PySem L2 Gx
section
variable {P : Program} {w : World} {K : PySem.W.Frag} {mg : Str → Option Value} {base : Heap} {cs : List (Addr × Addr)}
end
end TG
namespace TG
open PySem L2 Gx
section
variable {P : Program} {w : World} {K : PySem.W.Frag} {mg : Str → Option Value} {base : Heap} {cs : List (Addr × Addr)}
end
end TG
namespace Lv
open PySem PySem.Spec PyProof.Rows L2 NdefX GenW
/-- the object at f is the lambda F of the body e -/
def FnL (f : Addr) (F : NF) (e : Expr) : HO := .ext fun h => ∃ (od : Option Addr) (sl : Array (Option Value)) (pm ctv : Value), h.get? f = some (⟨.type "function", od, .func (PySem.W.kla_fn F.name F.qual F.params e F.scope F.cl pm (.ref F.c) ctv), sl⟩ : Obj)
theorem fnL_at {P : Program} {w : World} {H : Hp} {h : Heap} {f : Addr} {F : NF} {e : Expr} (hok : HOk P w H h) (q : H f = some (FnL f F e)) : ∃ (od : Option Addr) (sl : Array (Option Value)) (pm ctv : Value), h.get? f = some (⟨.type "function", od, .func (PySem.W.kla_fn F.name F.qual F.params e F.scope F.cl pm (.ref F.c) ctv), sl⟩ : Obj) := by
  have z := hok f _ q
  obtain ⟨z, _, _⟩ := z
  exact z
theorem fnL_ne {f : Addr} {F : NF} {e : Expr} (ps : Array Value) : FnL f F e ≠ .tbl ps := fun z => by
  unfold FnL at z
  cases z
section
variable {X : Cx} {pins : List (Addr × Obj)} {σ : L2.St} {H : Hp} {s : Shared}
theorem inv_lam {F : NF} {e : Expr} {tk : Nat} {pm ctv : Value} (I : Inv X pins σ H s) :
    Inv X pins σ (upd H s.heap.objs.size (FnL s.heap.objs.size F e)) { s with heap := s.heap.push (PySem.W.kla_obj F.name F.qual F.params e F.scope F.cl pm F.c ctv), toks := tk } := by
  refine I.laid (a := s.heap.objs.size) (fun b u q => Heap.get?_push_of_some _ q) (Nat.le_refl _) ?_
  have q : (s.heap.push (PySem.W.kla_obj F.name F.qual F.params e F.scope F.cl pm F.c ctv)).get? s.heap.objs.size = some (PySem.W.kla_obj F.name F.qual F.params e F.scope F.cl pm F.c ctv) := Heap.get?_push_size _ rfl
  exact ⟨⟨_, _, pm, ctv, q⟩, ⟨_, q⟩, fun h1 h2 ⟨od, sl, p, t, z⟩ st => ⟨od, sl, p, t, st _ z⟩⟩
/-- a lambda's object is made, its code object too, if the table has none yet -/
theorem lam_val {c P : Addr} {params : Arguments} {body : Expr} {scope : Scope} {pos : Pos} {E : Value → Shared → Prop} {Q : Value → Shared → Prop} (I : Inv X pins σ H s) (B : LamX.TabB X.base X.mg c P) (hcode : X.env.code = .ref c)
    (hT : LamX.TabS H P (X.env.qual ++ "<lambda>")) (hdef : defaultsOf params X.env = ([], [])) (hfree : ∀ y ∈ scope.names, y.2 = .free → ∃ c, X.env.cells.lookup y.1 = some c)
    (k : ∀ (f c' : Addr) (H1 : Hp) (s' : Shared), Inv X pins σ H1 s' → (∀ b o, H b = some o → b ≠ P → H1 b = some o) → (∀ b, H1 b = none → H b = none) → LamX.TabS H1 P (X.env.qual ++ "<lambda>") → H f = none →
      H1 f = some (FnL f ⟨"<lambda>", X.env.qual ++ "<lambda>", params, [], scope, cloFrom X.env.cells scope.names [], c'⟩ body) → H1 c' = some (LamX.CodeO c' (X.env.qual ++ "<lambda>")) → Q (.ref f) s') :
    wpAny (model X.prog X.w) X.A (eval (.Lambda params body scope pos) X.env) Q E s := by
  obtain ⟨ps, tP, tok, tin⟩ := hT
  have bP : s.heap.BuiltinsAt X.mg P := B.bm.keeps I.bk
  have gP : s.heap.get? P = some { cls := .none, data := .fields ps } := I.hok P _ tP
  have none3 : ∀ {G : Hp} {x y z : Addr} {o u v : HO} {b : Addr}, upd (upd (upd G x o) y u) z v b = none → G b = none := fun {G x y z o u v b} q => by
    have r1 := q
    unfold upd at r1
    split at r1
    · cases r1
    split at r1
    · cases r1
    split at r1
    · cases r1
    exact r1
  refine PySem.W.kla_eval hdef ?_
  cases hc : codeAmong pos ps.toList with
  | some cv =>
    obtain ⟨c', e, hco⟩ := tin pos cv hc
    subst e
    refine PySem.W.kla_makeFunctionHit (mg := X.mg) (c := c) (P := P) (ps := ps) (closure_ok hfree) I.ok.glob (I.mod.glob.keeps I.bk) hcode (B.code.keeps I.bk) gP tok hc bP fun ctv h' tk hx hsz => ?_
    have I1 : Inv X pins σ H { s with heap := h', toks := tk } := I.kept hx
    have nF : H h'.objs.size = none := I1.hok.fresh (Nat.le_refl _)
    have I2 := inv_lam (F := ⟨"<lambda>", X.env.qual ++ "<lambda>", params, [], scope, cloFrom X.env.cells scope.names [], c'⟩) (e := body) (tk := tk) (pm := (X.mg "__name__").getD .none) (ctv := ctv) I1
    refine k h'.objs.size c' _ _ I2 (fun b o q _ => by rw [upd_ne (ne_of_none q nF)]; exact q) (fun b q => ?_) ⟨ps, by rw [upd_ne (ne_of_none tP nF)]; exact tP, tok, fun p' cv' q => ?_⟩ nF upd_same (by rw [upd_ne (ne_of_none hco nF)]; exact hco)
    · unfold upd at q
      split at q
      · cases q
      · exact q
    · obtain ⟨c0, e1, e2⟩ := tin p' cv' q
      exact ⟨c0, e1, by rw [upd_ne (ne_of_none e2 nF)]; exact e2⟩
  | none =>
    refine PySem.W.kla_makeFunction (mg := X.mg) (c := c) (P := P) (ps := ps) (closure_ok hfree) I.ok.glob (I.mod.glob.keeps I.bk) hcode (B.code.keeps I.bk) gP tok hc B.gP bP fun c' ctv h' tk hx hge hlt hrec htb => ?_
    obtain ⟨c2, oc, vs, t, e2, hoc, hd, hv⟩ := hrec
    cases e2
    have nC : H c' = none := I.hok.fresh hge
    have I1 := LamX.inv_table (t' := tk) (more := #[rawInt pos.line, rawInt pos.col, .ref c']) (h' := h') I tP (fun b o hb q => hx b o hb q) htb hge ⟨oc, vs, t, hoc, hd, hv⟩
    have nF := I1.hok.fresh (Nat.le_refl _)
    have I2 := inv_lam (F := ⟨"<lambda>", X.env.qual ++ "<lambda>", params, [], scope, cloFrom X.env.cells scope.names [], c'⟩) (e := body) (tk := tk) (pm := (X.mg "__name__").getD .none) (ctv := ctv) I1
    have fC : h'.objs.size ≠ c' := Nat.ne_of_gt hlt
    have pC : P ≠ c' := ne_of_none tP nC
    have nF0 : H h'.objs.size = none := I.hok.fresh (Nat.le_trans hge (Nat.le_of_lt hlt))
    have pF : P ≠ h'.objs.size := ne_of_none tP nF0
    have eL : (ps ++ #[rawInt pos.line, rawInt pos.col, .ref c']).toList = ps.toList ++ [rawInt pos.line, rawInt pos.col, .ref c'] := by simp
    have kk : ∀ b o, H b = some o → b ≠ P → upd (upd (upd H P (.tbl (ps ++ #[rawInt pos.line, rawInt pos.col, .ref c']))) c' (LamX.CodeO c' (X.env.qual ++ "<lambda>"))) h'.objs.size (FnL h'.objs.size ⟨"<lambda>", X.env.qual ++ "<lambda>", params, [], scope, cloFrom X.env.cells scope.names [], c'⟩ body) b = some o := fun b o q hb => by
      rw [upd_ne (ne_of_none q nF0), upd_ne (ne_of_none q nC), upd_ne hb]
      exact q
    refine k h'.objs.size c' _ _ I2 kk (fun b q => none3 q) ⟨_, by rw [upd_ne pF, upd_ne pC, upd_same], by rw [eL]; exact PySem.TriplesOk_snoc _ _ _ _ tok, fun p' cv q => ?_⟩ nF0 upd_same (by rw [upd_ne fC.symm, upd_same])
    rw [eL] at q
    rcases LamX.among_app _ tok q with z | z
    · obtain ⟨c0, e1, e2⟩ := tin p' cv z
      exact ⟨c0, e1, kk _ _ e2 (fun y => by rw [y, tP] at e2; exact LamX.codeO_ne ps (Option.some.inj e2).symm)⟩
    · exact ⟨c', z, by rw [upd_ne fC.symm, upd_same]⟩
end
section
variable {P : Program} {w : World} {K : PySem.W.Frag} {mg : Str → Option Value} {base : Heap}
end
end Lv
namespace TG
open PySem PySem.Spec PyProof.Rows L2
abbrev cellF (o : Obj) : HO := .frz o (.own 0)
def addC (H : Hp) (cl : List (Addr × Obj)) : Hp := fun b => match cl.lookup b with
  | some o => some (cellF o)
  | none => H b
def delC (H : Hp) (cl : List (Addr × Obj)) : Hp := fun b => match cl.lookup b with
  | some _ => none
  | none => H b
theorem addC_in {H : Hp} {cl : List (Addr × Obj)} {b : Addr} {o : Obj} (h : cl.lookup b = some o) : addC H cl b = some (cellF o) := by unfold addC; rw [h]
theorem addC_out {H : Hp} {cl : List (Addr × Obj)} {b : Addr} (h : cl.lookup b = none) : addC H cl b = H b := by unfold addC; rw [h]
theorem delC_in {H : Hp} {cl : List (Addr × Obj)} {b : Addr} {o : Obj} (h : cl.lookup b = some o) : delC H cl b = none := by unfold delC; rw [h]
theorem delC_out {H : Hp} {cl : List (Addr × Obj)} {b : Addr} (h : cl.lookup b = none) : delC H cl b = H b := by unfold delC; rw [h]
section
variable {P : Program} {w : World}
theorem objOk_congr {H1 H2 : Hp} {h : Heap} {a : Addr} (k : ∀ b o, H1 b = some o → (∀ u v, o ≠ .frz u v) → H2 b = some o) : ∀ u : HO, ObjOk P w H1 h a u → ObjOk P w H2 h a u
  | .lst _, x => x
  | .tup _, x => x
  | .dK _, x => x
  | .dT _, ⟨x1, x2, xs, x3, x4⟩ => ⟨x1, x2, xs, x3.mono fun p q ⟨e1, e2, e3⟩ => ⟨e1, k _ _ e2 (fun u v z => by cases z), e3⟩, x4⟩
  | .set _ _, x => x
  | .ins _ _ _, ⟨x1, x2⟩ => ⟨k _ _ x1 (fun u v z => by cases z), x2⟩
  | .own _, x => x
  | .xd _, x => x
  | .rng _ _, x => x
  | .frz _ u, ⟨x1, x2⟩ => ⟨x1, objOk_congr k u x2⟩
  | .tbl _, x => x
  | .met _ _, x => x
  | .ext _, x => x
/-- the cells stand as they are told, and were untold -/
structure CellsIn (cl : List (Addr × Obj)) (base : Heap) (fs : List Addr) (h : Heap) : Prop where
  at_ : ∀ c o, cl.lookup c = some o → h.get? c = some o ∧ base.get? c = none ∧ c ∉ fs
theorem hok_add {H : Hp} {h : Heap} {cl : List (Addr × Obj)} (hk : HOk P w H h) (n : ∀ c o, cl.lookup c = some o → H c = none ∧ h.get? c = some o) : HOk P w (addC H cl) h := fun a o e => by
  cases q : cl.lookup a with
  | some u =>
    rw [addC_in q] at e
    cases e
    exact ⟨(n a u q).2, ⟨u, (n a u q).2⟩⟩
  | none =>
    rw [addC_out q] at e
    refine objOk_congr (fun b v hb _ => ?_) o (hk a o e)
    cases r : cl.lookup b with
    | some u => rw [(n b u r).1] at hb; cases hb
    | none => rw [addC_out r]; exact hb
theorem hok_del {H : Hp} {h : Heap} {cl : List (Addr × Obj)} (hk : HOk P w H h) (n : ∀ c o, cl.lookup c = some o → H c = some (cellF o)) : HOk P w (delC H cl) h := fun a o e => by
  cases q : cl.lookup a with
  | some u => rw [delC_in q] at e; cases e
  | none =>
    rw [delC_out q] at e
    refine objOk_congr (fun b v hb nf => ?_) o (hk a o e)
    cases r : cl.lookup b with
    | some u =>
      rw [n b u r] at hb
      cases hb
      exact absurd rfl (nf _ _)
    | none => rw [delC_out r]; exact hb
variable {K : PySem.W.Frag} {mg : Str → Option Value} {base : Heap} {A : Around} {outer : List Env} {s s' : Shared}
/-- told of: as a callee finds it -/
theorem env_add {H : Hp} {cl : List (Addr × Obj)} (e0 : Env0 P w K mg base A outer s H) (C : CellsIn cl base (frs outer) s.heap) (n : ∀ c o, cl.lookup c = some o → H c = none) : Env0 P w K mg base A outer s (addC H cl) := by
  refine ⟨e0.frames, e0.mod, fun b o hb => ⟨(e0.bs b o hb).1, ?_⟩, e0.bsz, e0.funs, fun b hb => ?_, hok_add e0.hok fun c o q => ⟨n c o q, (C.at_ c o q).1⟩, e0.bare⟩
  · cases r : cl.lookup b with
    | some u => rw [(C.at_ b u r).2.1] at hb; cases hb
    | none => rw [addC_out r]; exact (e0.bs b o hb).2
  · cases r : cl.lookup b with
    | some u => exact absurd hb (C.at_ b u r).2.2
    | none => rw [addC_out r]; exact e0.frf b hb
/-- untold of: as the frame that has the cells finds it -/
theorem env_del {H : Hp} {cl : List (Addr × Obj)} (e0 : Env0 P w K mg base A outer s H) (n : ∀ c o, cl.lookup c = some o → H c = some (cellF o)) : Env0 P w K mg base A outer s (delC H cl) := by
  refine ⟨e0.frames, e0.mod, fun b o hb => ⟨(e0.bs b o hb).1, ?_⟩, e0.bsz, e0.funs, fun b hb => ?_, hok_del e0.hok n, e0.bare⟩
  · cases r : cl.lookup b with
    | some u => exact delC_in r
    | none => rw [delC_out r]; exact (e0.bs b o hb).2
  · cases r : cl.lookup b with
    | some u => exact delC_in r
    | none => rw [delC_out r]; exact e0.frf b hb
theorem un_del {fs : List Addr} {H H' : Hp} {h h' : Heap} {cl : List (Addr × Obj)} (u : Un fs [] (addC H cl) H' h h') (hk : HOk P w H' h') (n : ∀ c o, cl.lookup c = some o → H c = none ∧ h.get? c = some o ∧ c ∉ fs) : Un fs [] H (delC H' cl) h h' := by
  have told : ∀ c o, cl.lookup c = some o → H' c = some (cellF o) := fun c o q => u.frzs c o _ (addC_in q)
  have out : ∀ {b : Addr} {o : HO}, H b = some o → cl.lookup b = none := fun {b o} hb => by
    cases r : cl.lookup b with
    | some v => rw [(n b v r).1] at hb; cases hb
    | none => rfl
  refine ⟨fun b o hb nb hf hx => ?_, fun b o hb nb hf hx => ?_, fun b o hb nb hx => ?_, fun b o hb hx => u.there b o hb hx, fun b xs hb => ?_, fun b o v hb => ?_, fun b ps hb => ?_⟩
  · cases r : cl.lookup b with
    | some v =>
      rw [(n b v r).2.1] at hb
      cases hb
      exact (hk b _ (told b _ r)).1
    | none => exact u.keep b o hb (by rw [addC_out r]; exact nb) hf hx
  · cases r : cl.lookup b with
    | some v => exact absurd hf (n b v r).2.2
    | none => exact u.slot b o hb (by rw [addC_out r]; exact nb) hf hx
  · cases r : cl.lookup b with
    | some v => exact delC_in r
    | none => rw [delC_out r]; exact u.free b o hb (by rw [addC_out r]; exact nb) hx
  · rw [delC_out (out hb)]
    exact u.tups b xs (by rw [addC_out (out hb)]; exact hb)
  · rw [delC_out (out hb)]
    exact u.frzs b o v (by rw [addC_out (out hb)]; exact hb)
  · obtain ⟨more, q⟩ := u.tbls b ps (by rw [addC_out (out hb)]; exact hb)
    exact ⟨more, by rw [delC_out (out hb)]; exact q⟩
/-- back from a callee that was told of the cells -/
theorem ce_del {H : Hp} {cl : List (Addr × Obj)} {Q : VK} {u : Value} (C : CellsIn cl base (frs outer) s.heap) (n : ∀ c o, cl.lookup c = some o → H c = none) (h : CE outer P w (addC H cl) s (fun v H' => (∀ c o, cl.lookup c = some o → H' c = some (cellF o)) → Q v (delC H' cl)) u s') : CE outer P w H s Q u s' := by
  obtain ⟨v, H', h1, h2, un, hk, r, q⟩ := h
  have told : ∀ c o, cl.lookup c = some o → H' c = some (cellF o) := fun c o e => un.frzs c o _ (addC_in e)
  exact ⟨v, delC H' cl, h1, h2, un_del un hk (fun c o e => ⟨n c o e, (C.at_ c o e).1, (C.at_ c o e).2.2⟩), hok_del hk told, r, q told⟩
theorem un_add {fs : List Addr} {H H' : Hp} {h h' : Heap} {cl : List (Addr × Obj)} (u : Un fs [] (delC H cl) H' h h') (n : ∀ c o, cl.lookup c = some o → H c = some (cellF o) ∧ h.get? c = some o ∧ c ∉ fs) : Un fs [] H (addC H' cl) h h' := by
  have frz : ∀ {b : Addr} {o : HO}, H b = some o → (∀ a v, o ≠ .frz a v) → cl.lookup b = none := fun {b o} hb nf => by
    cases r : cl.lookup b with
    | some v =>
      rw [(n b v r).1] at hb
      cases hb
      exact absurd rfl (nf _ _)
    | none => rfl
  refine ⟨fun b o hb nb hf hx => ?_, fun b o hb nb hf hx => ?_, fun b o hb nb hx => ?_, fun b o hb hx => u.there b o hb hx, fun b xs hb => ?_, fun b o v hb => ?_, fun b ps hb => ?_⟩
  · cases r : cl.lookup b with
    | some v => rw [(n b v r).1] at nb; cases nb
    | none => exact u.keep b o hb (by rw [delC_out r]; exact nb) hf hx
  · cases r : cl.lookup b with
    | some v => rw [(n b v r).1] at nb; cases nb
    | none => exact u.slot b o hb (by rw [delC_out r]; exact nb) hf hx
  · cases r : cl.lookup b with
    | some v => rw [(n b v r).1] at nb; cases nb
    | none => rw [addC_out r]; exact u.free b o hb (by rw [delC_out r]; exact nb) hx
  · have r := frz hb fun a v z => by cases z
    rw [addC_out r]
    exact u.tups b xs (by rw [delC_out r]; exact hb)
  · cases r : cl.lookup b with
    | some q =>
      rw [(n b q r).1] at hb
      rw [addC_in r]
      exact hb
    | none =>
      rw [addC_out r]
      exact u.frzs b o v (by rw [delC_out r]; exact hb)
  · have r := frz hb fun a v z => by cases z
    obtain ⟨more, q⟩ := u.tbls b ps (by rw [delC_out r]; exact hb)
    exact ⟨more, by rw [addC_out r]; exact q⟩
/-- behind the frame that has the cells: they are told of again -/
theorem ce_add {H : Hp} {cl : List (Addr × Obj)} {Q : VK} {u : Value} (hk0 : HOk P w H s.heap) (n : ∀ c o, cl.lookup c = some o → H c = some (cellF o) ∧ c ∉ frs outer) (h : CE outer P w (delC H cl) s (fun v H' => (∀ c o, cl.lookup c = some o → H' c = none) → Q v (addC H' cl)) u s') : CE outer P w H s Q u s' := by
  obtain ⟨v, H', h1, h2, un, hk, r, q⟩ := h
  have at0 : ∀ c o, cl.lookup c = some o → s.heap.get? c = some o := fun c o e => (hk0 c _ (n c o e).1).1
  refine ⟨v, addC H' cl, h1, h2, un_add un fun c o e => ⟨(n c o e).1, at0 c o e, (n c o e).2⟩, hok_add hk fun c o e => ?_, r, q fun c o e => un.free c o (at0 c o e) (delC_in e) (by simp)⟩
  exact ⟨un.free c o (at0 c o e) (delC_in e) (by simp), un.keep c o (at0 c o e) (delC_in e) (n c o e).2 (by simp)⟩
theorem cx_add {H : Hp} {cl : List (Addr × Obj)} {E : XK} {u : Value} (hk0 : HOk P w H s.heap) (n : ∀ c o, cl.lookup c = some o → H c = some (cellF o) ∧ c ∉ frs outer) (h : L2.CX P w outer (delC H cl) s (fun cls d H' => (∀ c o, cl.lookup c = some o → H' c = none) → E cls d (addC H' cl)) u s') : L2.CX P w outer H s E u s' := by
  obtain ⟨a, B, H', cls, d, e1, fly, hk, ub, na, h1, h2, q⟩ := h
  have at0 : ∀ c o, cl.lookup c = some o → s.heap.get? c = some o := fun c o e => (hk0 c _ (n c o e).1).1
  have atB : ∀ c o, cl.lookup c = some o → B.get? c = some o := fun c o e => ub.keep c o (at0 c o e) (delC_in e) (n c o e).2
  have frz : ∀ {b : Addr} {o : HO}, H b = some o → (∀ a v, o ≠ .frz a v) → cl.lookup b = none := fun {b o} hb nf => by
    cases r : cl.lookup b with
    | some v =>
      rw [(n b v r).1] at hb
      cases hb
      exact absurd rfl (nf _ _)
    | none => rfl
  refine ⟨a, B, addC H' cl, cls, d, e1, fly, hok_add hk fun c o e => ⟨ub.free c o (at0 c o e) (delC_in e), atB c o e⟩, ⟨fun b o hb nb hf => ?_, ub.slot, fun b o hb nb => ?_, ub.there, fun b xs hb => ?_, fun b o v hb => ?_, fun b ps hb => ?_⟩, ?_, h1, h2, q fun c o e => ub.free c o (at0 c o e) (delC_in e)⟩
  · cases r : cl.lookup b with
    | some v => rw [(n b v r).1] at nb; cases nb
    | none => exact ub.keep b o hb (by rw [delC_out r]; exact nb) hf
  · cases r : cl.lookup b with
    | some v => rw [(n b v r).1] at nb; cases nb
    | none => rw [addC_out r]; exact ub.free b o hb (by rw [delC_out r]; exact nb)
  · have r := frz hb fun a v z => by cases z
    rw [addC_out r]
    exact ub.tups b xs (by rw [delC_out r]; exact hb)
  · cases r : cl.lookup b with
    | some q =>
      rw [(n b q r).1] at hb
      rw [addC_in r]
      exact hb
    | none =>
      rw [addC_out r]
      exact ub.frzs b o v (by rw [delC_out r]; exact hb)
  · have r := frz hb fun a v z => by cases z
    obtain ⟨more, q⟩ := ub.tbls b ps (by rw [delC_out r]; exact hb)
    exact ⟨more, by rw [addC_out r]; exact q⟩
  · cases r : cl.lookup a with
    | some v =>
      have z := fly.2.1
      rw [atB a v r] at z
      cases z
    | none => rw [addC_out r]; exact na
end
end TG
namespace TG
open PySem PySem.Spec PyProof.Rows L2 NdefX GenW Gx Lv
/-- the captured names' cells, told of, hold these values -/
structure Caught (F : NF) (fr : List Str) (ws : List (Option V)) (cl : List (Addr × Obj)) (H : Hp) : Prop where
  len : ws.length = fr.length
  told : ∀ c o, cl.lookup c = some o → H c = some (cellF o)
  all : ∀ y c, F.cl.lookup y = some c → ∃ o v, cl.lookup c = some o ∧ o.data = .cell v
  inj : ∀ x y c, F.cl.lookup x = some c → F.cl.lookup y = some c → x = y
  has : ∀ (i : Nat) (y : Str), fr[i]? = some y → ∃ c, F.cl.lookup y = some c ∧ ∀ v, ws[i]? = some (some v) → ∃ o u, cl.lookup c = some o ∧ o.data = .cell (some u) ∧ RelV v u
section
variable {P : Program} {w : World} {K : PySem.W.Frag} {mg : Str → Option Value} {base : Heap}
structure LOkX (P : Program) (w : World) (K : PySem.W.Frag) (mg : Str → Option Value) (base : Heap) (k : Nat) (f : Addr) (F : NF) (e : Expr) (sp : Sp) : Prop where
  run : ∀ (A : Around) (outer : List Env) (s : Shared) (H : Hp) (Q : VK) (E : XK), Room k A → Env0 P w K mg base A outer s H → H f = some (FnL f F e) → H F.c = some (LamX.CodeO F.c F.qual) → sp [] H Q E →
    codeAny (model P w) A (.call (.ref f) ⟨[], []⟩) (CR (L2.CX P w) outer P w H s Q E) s
theorem lokx_of {k : Nat} {f : Addr} {F : NF} {e : Expr} {N fr : List Str} {sp : Sp} (S : NScope N [] fr F.scope) (hb : ∀ (pm ctv : Value), bindArgs (PySem.W.kla_fn F.name F.qual F.params e F.scope F.cl pm (.ref F.c) ctv) ⟨[], []⟩ = pure [])
    (hbody : ∀ (A : Around) (outer : List Env) (s : Shared) (H : Hp) (Q : VK) (E : XK), Room k (A.deeper (envF F f s.heap.objs.size)) → sp [] H Q E → ∃ (ws : List (Option V)) (cl : List (Addr × Obj)) (t : TE), Caught F fr ws cl H ∧
      PE (ncx (L2.CX P w) P w K mg base N F f A outer s (delC H cl) (fun cls d H' => (∀ c o, cl.lookup c = some o → H' c = none) → E cls d (addC H' cl))) e t ∧ t (startF N [] ws) (delC H cl) (fun v H' => (∀ c o, cl.lookup c = some o → H' c = none) → Q v (addC H' cl))) :
    LOkX P w K mg base (k + 1) f F e sp := by
  refine ⟨fun A outer s H Q E hr e0 hf hc hsp => ?_⟩
  have lim : s.heap.NoLimit := e0.mod.nolimit.keeps fun b o q => (e0.bs b o q).1
  obtain ⟨od, sl, pm, ctv, ho⟩ := fnL_at e0.hok hf
  obtain ⟨ws, cl, t, C, ht, hq⟩ := hbody A outer s H Q E (hr.deeper _) hsp
  have hnf : ∀ c o, cl.lookup c = some o → c ∉ frs outer := fun c o q hb => by
    have z := e0.frf c hb
    rw [C.told c o q] at z
    cases z
  have at0 : ∀ c o, cl.lookup c = some o → s.heap.get? c = some o := fun c o q => (e0.hok c _ (C.told c o q)).1
  refine codeAny_mono (R := CR (L2.CX P w) outer P w (delC H cl) s (fun v H' => (∀ c o, cl.lookup c = some o → H' c = none) → Q v (addC H' cl)) (fun cls d H' => (∀ c o, cl.lookup c = some o → H' c = none) → E cls d (addC H' cl))) ?_ fun r s' q => ?_
  · have e1 := env_del e0 C.told
    refine PySem.W.kla_callFunE hr.depth ho rfl S.co S.gen rfl (codeO_at e0.hok hc) ?_
    rw [hb pm ctv]
    refine wpAny_pure (wpAny_newFunctionEnv S.nocell (fun ⟨n, _⟩ hy => by cases hy) (fun h₁ hns hsb => ⟨lim.fresh _ hsb, ?_⟩) S.kind)
    have kp : ∀ b o, s.heap.get? b = some o → h₁.get? b = some o := fun b o q => hsb.extBut b o (Nat.ne_of_lt (Heap.lt_size q)) (Heap.get?_push_of_some _ q)
    have CA : NdefX.CellsAt F.cl fr ws s.heap (delC H cl) := by
      refine ⟨C.len, fun y c q => ?_, C.inj, fun i y q => ?_⟩
      · obtain ⟨o, v, h1, h2⟩ := C.all y c q
        exact ⟨delC_in h1, v, o, at0 c o h1, h2⟩
      · obtain ⟨c, h1, h2⟩ := C.has i y q
        refine ⟨c, h1, fun v hv => ?_⟩
        obtain ⟨o, u, h3, h4, h5⟩ := h2 v hv
        exact ⟨u, h5, o, at0 c o h3, h4⟩
    have I := inv_startN (CX := L2.CX P w) (P := P) (w := w) (E := fun cls d H' => (∀ c o, cl.lookup c = some o → H' c = none) → E cls d (addC H' cl)) (f := f) (tk := s.toks + (([] : List Str).zip ([] : List Value)).length) S hr.hd e1 (vs := []) (us := []) rfl .nil CA hns kp
    refine PySem.W.kla_codeExpr (wpAny_mono (ht.run [] _ (startF N [] ws) (delC H cl) _ I hq) (fun v s' q => ?_) fun e' s' q => q)
    obtain ⟨w', H', J, rv, q⟩ := q
    exact ⟨w', H', J.os, J.bare, J.base, J.hok, rv, q⟩
  · cases r with
    | error er => exact cx_add e0.hok (fun c o q => ⟨C.told c o q, hnf c o q⟩) q
    | ok fl =>
      cases fl with
      | ret u => exact ce_add e0.hok (fun c o q => ⟨C.told c o q, hnf c o q⟩) q
      | next => exact False.elim q
      | brk => exact False.elim q
      | cont => exact False.elim q
end
end TG
namespace TG
open PySem PySem.Spec PyProof.Rows L2 NdefX GenW Gx Lv
structure ToldC (cells : List (Str × Addr)) (N names : List Str) (σ : L2.St) (cl : List (Addr × Obj)) : Prop where
  all : ∀ y ∈ names, ∃ c o v, cells.lookup y = some c ∧ cl.lookup c = some o ∧ o.data = .cell v
  val : ∀ y ∈ names, ∀ c o, cells.lookup y = some c → cl.lookup c = some o → ∀ (i : Nat) (v : V), N[i]? = some y → σ[i]? = some (some v) → ∃ u, o.data = .cell (some u) ∧ RelV v u
  inj : ∀ y z c, cells.lookup y = some c → cells.lookup z = some c → y = z
theorem cells_list {h : Heap} {cells : List (Str × Addr)} : ∀ names : List Str, (∀ y ∈ names, ∃ c v, cells.lookup y = some c ∧ h.IsCell c v) →
    ∃ cl : List (Addr × Obj), (∀ c o, cl.lookup c = some o → h.get? c = some o ∧ ∃ y ∈ names, cells.lookup y = some c) ∧ ∀ y ∈ names, ∀ c, cells.lookup y = some c → ∃ o, cl.lookup c = some o
  | [], _ => ⟨[], ⟨fun c o e => by simp at e, fun y hy => by simp at hy⟩⟩
  | y :: names, k => by
    obtain ⟨cl, h1, h2⟩ := cells_list names fun z hz => k z (List.mem_cons_of_mem _ hz)
    obtain ⟨c, v, e1, o, e2, _⟩ := k y List.mem_cons_self
    refine ⟨(c, o) :: cl, fun c' o' e => ?_, fun z hz c' e => ?_⟩
    · rw [List.lookup_cons] at e
      by_cases q : c' = c
      · rw [q, beq_self_eq_true] at e
        cases e
        rw [q]
        exact ⟨e2, y, List.mem_cons_self, e1⟩
      · rw [beq_false_of_ne q] at e
        obtain ⟨g1, z, hz, g2⟩ := h1 c' o' e
        exact ⟨g1, z, List.mem_cons_of_mem _ hz, g2⟩
    · rw [List.lookup_cons]
      by_cases q : c' = c
      · rw [q, beq_self_eq_true]
        exact ⟨o, rfl⟩
      · rw [beq_false_of_ne q]
        rcases List.mem_cons.mp hz with r | r
        · rw [r, e1] at e
          exact absurd (Option.some.inj e).symm q
        · exact h2 z r c' e
def tCallC (cells : List (Str × Addr)) (N names : List Str) (sp : Sp) (t : TA) : TE := fun σ H Q => t σ H fun vs H1 => ∀ cl : List (Addr × Obj), ToldC cells N names σ cl → (∀ c o, cl.lookup c = some o → H1 c = none) →
  sp vs (addC H1 cl) (fun v H' => (∀ c o, cl.lookup c = some o → H' c = some (cellF o)) → Q v (delC H' cl)) (fun _ _ _ => False)
theorem pe_callC {X : Cx} {names : List Str} {k : Nat} {f : Addr} {fd : FuncData} {ps : List Str} {sp : Sp} {x : Str} {p pos : Pos} {e : Expr} {es : List Expr} {t : TA} (F : FnOk X.prog X.w X.K X.mg X.base CX0 k f fd ps sp) (hr : Room k X.A) (hg : Gl X x) (hm : X.mg x = some (.ref f)) (hk : PySem.W.keepIn X.K (.ref f) = true) (hb : Binds X.K fd ps [])
    (hfn : ∀ y ∈ names, X.fn y = true) (hcell : ∀ y ∈ names, X.env.kindOf y = some .cell) (ha : PA X (e :: es) t) (hdb : (x == ("__debug__" : Str)) = false := by decide) (he : starEach (e :: es) X.env = (false, eval e X.env) :: starEach es X.env := by rfl) (hpl : (backTo pos (starEach es X.env)).any (·.1) = false := by rfl) :
    PE X (.Call (.Name x p) (e :: es) [] pos) (tCallC X.env.cells X.N names sp t) := by
  refine ⟨fun pins s σ H Q I h => ?_⟩
  refine wpAny_Call_Name_kw (ld_glob I hg hm ?_ hdb)
  refine PySem.W.callWith_K (h₀ := X.base) I.ok.mod.kin hk (thn (ha.run pos pins s σ H _ I h) fun us s1 ⟨vs, H1, I1, r, q⟩ => ⟨I1.kIn, ?_⟩) he hpl
  show wpAny _ _ (call (.ref f) us) _ _ _
  have has : ∀ y ∈ names, ∃ c v, X.env.cells.lookup y = some c ∧ s1.heap.IsCell c v := fun y hy => by
    obtain ⟨c, hc⟩ := I1.ok.has y (.inl (hcell y hy))
    obtain ⟨v, hv⟩ := I1.cell y c hc
    exact ⟨c, v, hc, hv⟩
  obtain ⟨cl, c1, c2⟩ := cells_list names has
  have un : ∀ c o, cl.lookup c = some o → H1 c = none := fun c o e => by
    obtain ⟨_, y, _, hc⟩ := c1 c o e
    exact I1.freeC y c hc
  have C : CellsIn cl X.base (frs X.stack) s1.heap := ⟨fun c o e => by
    obtain ⟨g1, y, hy, hc⟩ := c1 c o e
    have ge := I1.ok.cab y c (hfn y hy) hc
    refine ⟨g1, ?_, fun hin => ?_⟩
    · cases z : X.base.get? c with
      | none => rfl
      | some u => exact absurd (Nat.lt_of_lt_of_le (Heap.lt_size (I1.ok.bs c u z).1) ge) (Nat.lt_irrefl _)
    · rcases List.mem_cons.mp (I1.stkSub c hin) with z | z
      · obtain ⟨m, hn, _⟩ := I1.loc
        obtain ⟨v, o2, q1, q2⟩ := I1.cell y c hc
        rw [z] at q1
        obtain ⟨o3, es3, ep3, q3, q4, _⟩ := hn
        rw [q1] at q3
        cases q3
        rw [q2] at q4
        cases q4
      · obtain ⟨_, o2, q1, _⟩ := I1.ok.funs.mem z
        exact absurd (Nat.lt_of_lt_of_le (Heap.lt_size q1) ge) (Nat.lt_irrefl _)⟩
  have T : ToldC X.env.cells X.N names σ cl := by
    refine ⟨fun y hy => ?_, fun y hy c o hc ho i v hN hs => ?_, I1.ok.inj⟩
    · obtain ⟨c, hc⟩ := I1.ok.has y (.inl (hcell y hy))
      obtain ⟨v, o2, q1, q2⟩ := I1.cell y c hc
      obtain ⟨o, ho⟩ := c2 y hy c hc
      have z := (c1 c o ho).1
      rw [q1] at z
      cases z
      exact ⟨c, _, v, hc, ho, q2⟩
    · obtain ⟨m, hn, loc⟩ := I1.loc
      obtain ⟨u, ru, lk⟩ := loc i y v hN hs (.inr (.inl (hcell y hy)))
      rcases lk with ⟨z, _⟩ | ⟨_, c', hc', o2, q1, q2⟩
      · rw [hcell y hy] at z; cases z
      · rw [hc] at hc'
        cases hc'
        have z := (c1 c o ho).1
        rw [q1] at z
        cases z
        exact ⟨u, q2, ru⟩
  have sq := q cl T un
  have hl : (us ++ []).length = ps.length := by rw [List.append_nil, ← r.length]; exact F.len _ _ _ _ sq
  have e1 := env_add I1.env0 C un
  have bd := hb s1 us I1.kIn hl
  rw [List.append_nil] at bd
  refine wpAny_call (codeAny_mono (F.run X.A X.stack s1 (addC H1 cl) ⟨us, []⟩ us vs _ _ hr e1 bd r sq) fun r' s' hq => ?_)
  cases r' with
  | error er => exact False.elim hq
  | ok fl =>
    cases fl with
    | ret u => exact I1.after (ce_del C un hq)
    | next => exact False.elim hq
    | brk => exact False.elim hq
    | cont => exact False.elim hq
end TG
namespace TG
open PySem PySem.Spec PyProof.Rows L2 NdefX GenW Gx Lv
/-- the reading of a lambda that captures cells of the frame -/
def tLamC (P : Addr) (q : Str) (params : Arguments) (body : Expr) (scope : Scope) (cl : List (Str × Addr)) : TE := fun _ H Q => LamX.TabS H P q ∧ ∀ (f c' : Addr) (H1 : Hp), (∀ b o, H b = some o → b ≠ P → H1 b = some o) → (∀ b, H1 b = none → H b = none) → LamX.TabS H1 P q → H f = none →
  H1 f = some (FnL f ⟨"<lambda>", q, params, [], scope, cl, c'⟩ body) → H1 c' = some (LamX.CodeO c' q) → Q (.ref f) H1
theorem pe_lamC {X : Cx} {c P : Addr} {params : Arguments} {body : Expr} {scope : Scope} {pos : Pos} (B : LamX.TabB X.base X.mg c P) (hcode : X.env.code = .ref c) (hdef : defaultsOf params X.env = ([], []))
    (hfr : ∀ y ∈ scope.names, y.2 = .free → X.env.kindOf y.1 = some .cell ∨ X.env.kindOf y.1 = some .free) :
    PE X (.Lambda params body scope pos) (tLamC P (X.env.qual ++ "<lambda>") params body scope (cloFrom X.env.cells scope.names [])) := by
  refine ⟨fun pins s σ H Q I h => ?_⟩
  obtain ⟨hT, h⟩ := h
  exact lam_val I B hcode hT hdef (fun y hy e => I.ok.has _ (hfr y hy e)) fun f c' H1 s' J k1 k2 t1 nf hf hc => ⟨.ref f, H1, J, rfl, h f c' H1 k1 k2 t1 nf hf hc⟩
end TG

namespace TG
open PySem PySem.Spec PyProof.Rows L2 Gx
theorem fold_one (c : Nat) : ∀ (n : Nat) (acc : Array Nat), (List.replicate n (#[c] : Array Nat)).foldl (fun a b => a ++ b) acc = acc ++ (List.replicate n c).toArray
  | 0, acc => by simp
  | n + 1, acc => by
    rw [List.replicate_succ, List.foldl_cons, fold_one c n]
    apply Array.toList_inj.mp
    simp [List.replicate_succ]
def repS (c : Nat) (n : Nat) : Str := ⟨(List.replicate n c).toArray⟩
theorem cl_repS (c n : Nat) : cl (repS c n) = List.replicate n c := by simp [cl, repS]
section
variable {X : Cx}
def rRepS : V → V → Hp → VK → Prop := fun x y H Q => ∃ (c : Nat) (n : Int), x = .str ⟨#[c]⟩ ∧ y = .int n ∧ 0 ≤ n ∧ n ≤ 1000 ∧ Q (.str (repS c n.toNat)) H
theorem op_repS : OpR X (binaryOp .Mult) rRepS := by
  intro pins s σ H x y v u Q I rx ry h
  obtain ⟨c, n, rfl, rfl, h0, h1, q⟩ := h
  obtain ⟨t, rfl⟩ := rx
  obtain ⟨t', rfl⟩ := ry
  have hs : ((⟨#[c]⟩ : Str).length) = 1 := rfl
  refine PySem.P.mul_str ?_ (fun _ _ => ?_) (fun _ _ => ?_) ?_
  · rw [decide_eq_false (by omega), decide_eq_false (by omega)]
    rfl
  · rw [hs]
    have : (1 : Int) ≤ (2 ^ 63 - 1) / n := Int.le_ediv_of_mul_le (by omega) (by omega)
    omega
  · rw [hs, Nat.one_mul]
    have sz : (1000 : Nat) < sizeLine := by decide
    exact decide_eq_false (by omega)
  · by_cases e : n < 1
    · rw [if_pos e]
      have e0 : n = 0 := by omega
      subst e0
      exact ⟨by decide, .str (repS c (0 : Int).toNat), H, I.tok _, ⟨_, rfl⟩, q⟩
    · rw [if_neg e]
      by_cases e1 : n = 1
      · subst e1
        rw [if_pos (by rfl)]
        exact (⟨.str (repS c (1 : Int).toNat), H, I, ⟨_, rfl⟩, q⟩ : EP X pins σ Q _ _)
      · rw [if_neg (by rw [hs]; simp [e1])]
        have hf : (⟨(List.replicate n.toNat (#[c] : Array Nat)).foldl (· ++ ·) #[]⟩ : Str) = repS c n.toNat := by
          unfold repS
          rw [fold_one]
          simp
        show Made.post (.str ⟨(List.replicate n.toNat (#[c] : Array Nat)).foldl (· ++ ·) #[]⟩) _ _
        rw [hf]
        have sz : (1000 : Nat) < sizeLine := by decide
        have hl : (repS c n.toNat).length = n.toNat := by unfold repS; simp [Str.length]
        exact ⟨by omega, .str (repS c n.toNat), H, I.tok _, ⟨_, rfl⟩, q⟩
end
end TG


namespace TG
open PySem PySem.Spec PyProof.Rows L2 Gx
/-! ### texts of pages -/
abbrev tabS : Str := "\t"
abbrev lineS : Str := "\n"
def rowT (r : List Str) : Str := Txt.join tabS r
def pageT (rows : List (List Str)) : Str := Txt.join lineS (rows.map rowT)
theorem cl_tabS : cl tabS = [9] := by decide +kernel
theorem cl_lineS : cl lineS = [10] := by decide +kernel
theorem cl_joinL (y : Str) (ps : List Str) : cl (Txt.join y ps) = TL.joinL (cl y) (ps.map cl) := by
  rw [TL.join_eq]
  exact TL.tl_join y ps
theorem joinL_mem (S : List Nat) : ∀ (ps : List (List Nat)) (c : Nat), c ∈ TL.joinL S ps → c ∈ S ∨ ∃ p ∈ ps, c ∈ p
  | [], c, h => by cases h
  | [p], c, h => .inr ⟨p, by simp, h⟩
  | p :: q :: r, c, h => by
    have h : c ∈ p ++ (S ++ TL.joinL S (q :: r)) := h
    rcases List.mem_append.mp h with h | h
    · exact .inr ⟨p, by simp, h⟩
    rcases List.mem_append.mp h with h | h
    · exact .inl h
    rcases joinL_mem S (q :: r) c h with h | ⟨x, hx, hc⟩
    · exact .inl h
    · exact .inr ⟨x, by simp at hx ⊢; exact .inr hx, hc⟩
theorem joinL_len (S : List Nat) (m : Nat) : ∀ (ps : List (List Nat)), (∀ p ∈ ps, p.length ≤ m) → (TL.joinL S ps).length ≤ ps.length * (m + S.length)
  | [], _ => Nat.zero_le _
  | [p], h => by
    have := h p (by simp)
    show p.length ≤ 1 * (m + S.length)
    omega
  | p :: q :: r, h => by
    have h1 := h p (by simp)
    have h2 := joinL_len S m (q :: r) fun x hx => h x (by simp at hx ⊢; exact .inr hx)
    show (p ++ (S ++ TL.joinL S (q :: r))).length ≤ ((q :: r).length + 1) * (m + S.length)
    rw [List.length_append, List.length_append, Nat.add_mul]
    omega
theorem rowT_sg {r : List Str} (h : RowOk r) : ∀ c ∈ cl (rowT r), c = 9 ∨ SgOk c := by
  intro c hc
  unfold rowT at hc
  rw [cl_joinL, cl_tabS] at hc
  rcases joinL_mem _ _ _ hc with h1 | ⟨p, hp, h1⟩
  · exact .inl (by simpa using h1)
  · obtain ⟨z, hz, rfl⟩ := List.mem_map.mp hp
    exact .inr ((h.3 z hz).2 c h1)
theorem rowT_len {r : List Str} (h : RowOk r) : (rowT r).length ≤ 66 := by
  rw [len_cl]
  unfold rowT
  rw [cl_joinL]
  have := joinL_len (cl tabS) 10 (r.map cl) fun p hp => by
    obtain ⟨z, hz, rfl⟩ := List.mem_map.mp hp
    have := (h.3 z hz).1
    rw [← len_cl]
    exact this
  rw [List.length_map, cl_tabS, show ([9] : List Nat).length = 1 from rfl] at this
  rw [cl_tabS]
  have := h.2
  omega
theorem pageT_len {rows : List (List Str)} (h : PgOk rows) : (pageT rows).length ≤ 2010 := by
  rw [len_cl]
  unfold pageT
  rw [cl_joinL]
  have := joinL_len (cl lineS) 66 ((rows.map rowT).map cl) fun p hp => by
    obtain ⟨z, hz, rfl⟩ := List.mem_map.mp hp
    obtain ⟨r, hr, rfl⟩ := List.mem_map.mp hz
    rw [← len_cl]
    exact rowT_len (h.rows r hr)
  rw [List.length_map, List.length_map, cl_lineS, show ([10] : List Nat).length = 1 from rfl] at this
  rw [cl_lineS]
  have := h.len
  omega
theorem split_row {r : List Str} (h : RowOk r) : Txt.split (rowT r) tabS = r := by
  refine TL.split_join (s := 9) (S := []) cl_tabS (by decide +kernel) ?_ fun p hp q => ?_
  · intro e
    have := h.1
    rw [e] at this
    simp at this
  · have q : 9 ∈ cl p := q
    have := (h.3 p hp).2 9 q
    unfold SgOk at this
    omega
theorem split_page {rows : List (List Str)} (h : PgOk rows) : Txt.split (pageT rows) lineS = rows.map rowT := by
  refine TL.split_join (s := 10) (S := []) cl_lineS (by decide +kernel) ?_ fun p hp q => ?_
  · intro e
    have := h.pos
    have e2 := congrArg List.length e
    rw [List.length_map] at e2
    simp at e2
    rw [e2] at this
    simp at this
  · obtain ⟨r, hr, rfl⟩ := List.mem_map.mp hp
    have q : 10 ∈ cl (rowT r) := q
    rcases rowT_sg (h.rows r hr) 10 q with e | e
    · omega
    · unfold SgOk at e
      omega
theorem kind_min1 (y : Str) (hy : Builtin.Str.strKind y = 1) (x : Str) : ¬ Builtin.Str.strKind x < Builtin.Str.strKind y := by
  rw [hy]
  unfold Builtin.Str.strKind
  split
  · decide
  · split <;> decide
theorem splLenT (S : List Nat) : ∀ (l acc : List Nat) (k : Nat) (p : List Nat), p ∈ TL.spl S k acc l → p.length ≤ acc.length + l.length
  | [], acc, k, p, h => by
    unfold TL.spl at h
    rw [List.mem_singleton] at h
    rw [h]
    exact Nat.le_add_right _ _
  | c :: r, acc, 0, p, h => by
    unfold TL.spl at h
    rw [List.length_cons]
    split at h
    · rcases List.mem_cons.mp h with z | z
      · rw [z]; omega
      · have := splLenT S r [] _ p z
        simp at this
        omega
    · have := splLenT S r _ _ p h
      rw [List.length_append, List.length_singleton] at this
      omega
  | c :: r, acc, k + 1, p, h => by
    unfold TL.spl at h
    have := splLenT S r _ _ p h
    rw [List.length_cons]
    omega
theorem split_clL (z y : Str) (h0 : cl y ≠ []) (hy : Builtin.Str.strKind y = 1) : (Txt.split z y).map cl = TL.spl (cl y) 0 [] (cl z) :=
  TL.split_spl z y h0 (kind_min1 y hy z)
theorem split_pieceL {z y p : Str} (h0 : cl y ≠ []) (hy : Builtin.Str.strKind y = 1) (h : p ∈ Txt.split z y) : p.length ≤ z.length := by
  have h2 : cl p ∈ TL.spl (cl y) 0 [] (cl z) := by rw [← split_clL z y h0 hy]; exact List.mem_map_of_mem h
  have := splLenT (cl y) _ _ _ _ h2
  simpa [cl, Str.length] using this
theorem kind_line : Builtin.Str.strKind lineS = 1 := by decide +kernel
theorem kind_tab : Builtin.Str.strKind tabS = 1 := by decide +kernel
/-- the rows of a text -/
def rowsT (z : Str) : List (List Str) := (Txt.split z lineS).map fun l => Txt.split l tabS
theorem rowsT_page {rows : List (List Str)} (h : PgOk rows) : rowsT (pageT rows) = rows := by
  unfold rowsT
  rw [split_page h, List.map_map]
  conv => rhs; rw [← List.map_id rows]
  apply List.map_congr_left
  intro r hr
  exact split_row (h.rows r hr)
structure RowsAt (ps : List Addr) (rows : List (List Str)) (H : Hp) : Prop where
  len : ps.length = rows.length
  row : ∀ (i : Nat) (q : Addr) (z : List Str), ps[i]? = some q → rows[i]? = some z → H q = some (.tup (sV z))
def rTupT (K : PySem.W.Frag) : List V → Hp → VK → Prop := fun xs H Q => ∃ p ys, xs = [V.ref p] ∧ ((SqL K H p ys ∧ ∀ l, H l = none → Q (.ref l) (upd H l (.tup ys))) ∨ (SqT K H p ys ∧ Q (.ref p) H))
def rJoin (K : PySem.W.Frag) : V → List V → Hp → VK → Prop := fun x xs H Q => ∃ a p, ∃ ys : List Str, x = .str a ∧ xs = [.ref p] ∧ (SqL K H p (ys.map V.str) ∨ SqT K H p (ys.map V.str)) ∧ (ys.map (·.length)).sum + ys.length * a.length ≤ 16777216 ∧ Q (.str (Txt.join a ys)) H
section
variable {P : Program} {w : World} {K : PySem.W.Frag} {mg : Str → Option Value} {base : Heap} {cs : List (Addr × Addr)}
def spRowsOf (cs : List (Addr × Addr)) : Sp := fun vs H Q _ => ∃ z : Str, vs = [.str z] ∧ Tabs cs H ∧ z.length ≤ 1000000 ∧
  ∀ (r : Addr) (ps : List Addr) (H' : Hp), Ex cs H H' → H r = none → H' r = some (.lst (ps.map V.ref)) → RowsAt ps (rowsT z) H' → Q (.ref r) H'
theorem sc_rowsof : FnScope ["text", "line"] ["text"] (defScope s_rows_of) := ⟨rfl, rfl, rfl, by decide +kernel, rfl, by decide +kernel, by decide +kernel⟩
theorem ok_rowsof {f : Addr} {fd : FuncData} (T : Txt mg) (eT : ∃ t, mg "TAB" = some (.str tabS t)) (eL : ∃ t, mg "LINE_END" = some (.str lineS t)) (F : Fun K "rows_of" "rows_of" s_rows_of f fd) : FnOk P w K mg base CX0 1 f fd ["text"] (spRowsOf cs) := by
  refine F.ok sc_rowsof (fun vs H Q E h => ?_) (fun cdv A outer s H vs Q E hr h => ?_)
  · obtain ⟨z, rfl, _⟩ := h
    rfl
  · obtain ⟨z, rfl, hT, hz2, k⟩ := h
    have nd := sc_rowsof.nd
    have szl : (10000000 : Nat) < sizeLine := by decide
    obtain ⟨tt, eT⟩ := eT
    obtain ⟨tl, eL⟩ := eL
    refine ⟨_, pss_one (ps_ret (pe_lc (own := [("line", 1)]) (g := gName 1) (tt := tYes) rfl nd (pi_list (pe_split (pv 0) (pe_glob (v := .str lineS) rfl eL ⟨_, rfl⟩))) (blkOk_by (own := [("line", 1)]) (N := ["text", "line"]) (sc := defScope s_rows_of) (by decide +kernel))
        (fun _ _ _ _ _ => pg_name (i := 1) nd rfl (Or.inl rfl)) (fun _ _ _ _ _ => pts_nil) (fun s1 H1 C1 cl1 fp1 => pe_callTy (T := "tuple") (r := rTupT K) call_tuple_of (by rfl) T.tuple (by decide +kernel) (pa_cons (pe_split (to := tVar 1) (te := tC (.str tabS)) (pv 1) (pe_glob (v := .str tabS) (by rfl) eT ⟨_, rfl⟩)) pa_nil)))), ?_⟩
    have hlen : (Txt.split z lineS).length ≤ 1000002 := Nat.le_trans (PyProof.Rows.split_le z _) (by omega)
    refine ⟨_, rfl, ⟨_, rfl⟩, _, _, rfl, rfl, by decide +kernel, by omega, fun p np => ?_⟩
    have x1 := Ex.laid (o := .lst ((Txt.split z lineS).map V.str)) hT np
    have hp1 : upd H p (.lst ((Txt.split z lineS).map V.str)) p = some (.lst (sV (Txt.split z lineS))) := upd_same
    generalize upd H p (.lst ((Txt.split z lineS).map V.str)) = H1 at x1 hp1 ⊢
    refine ⟨p, rfl, ⟨_, SqL.of hp1⟩, fun D nD => lc_list (xs := sV (Txt.split z lineS)) (fun i H' => Ex cs H1 H' ∧ ∃ ps : List Addr, H' D = some (.lst (ps.map V.ref)) ∧ ps.length = i ∧ ∀ (j : Nat) (q : Addr) (z' : Str), ps[j]? = some q → (Txt.split z lineS)[j]? = some z' → H' q = some (.tup (sV (Txt.split z' tabS))))
      ⟨Ex.laid x1.tab nD, [], upd_same, rfl, fun j q z h => by cases h⟩ (fun i H' _ x => x.1.sqL (SqL.of hp1)) ?_ ?_⟩
    · rintro i v H4 hv ⟨x4, ps, hD4, hpl, hps⟩
      obtain ⟨y, hy, rfl⟩ := get_map hv
      have hi := (List.getElem?_eq_some_iff.mp hy).1
      have hyl := split_pieceL (by rw [cl_lineS]; decide) kind_line (List.mem_of_getElem? hy)
      refine ⟨rfl, _, rfl, ⟨_, rfl⟩, _, _, rfl, rfl, by decide +kernel, by omega, fun u nu => ⟨u, _, rfl, .inl ⟨SqL.of upd_same, fun t nt => ?_⟩⟩⟩
      have x5 := x4.trans (Ex.laid (o := .lst ((Txt.split y tabS).map V.str)) x4.tab nu)
      have x6 := x5.trans (Ex.laid (o := .tup ((Txt.split y tabS).map V.str)) x5.tab nt)
      have x46 := (Ex.laid (o := .lst ((Txt.split y tabS).map V.str)) x4.tab nu).trans (Ex.laid (o := .tup ((Txt.split y tabS).map V.str)) x5.tab nt)
      have ht : upd (upd H4 u (.lst ((Txt.split y tabS).map V.str))) t (.tup ((Txt.split y tabS).map V.str)) t = some (.tup (sV (Txt.split y tabS))) := upd_same
      have nt4 : H4 t = none := (Ex.laid (o := .lst ((Txt.split y tabS).map V.str)) x4.tab nu).old _ nt
      generalize upd (upd H4 u (.lst ((Txt.split y tabS).map V.str))) t (.tup ((Txt.split y tabS).map V.str)) = H6 at x6 x46 ht ⊢
      have hD6 := x46.lst hD4
      have nDt : D ≠ t := fun e => by rw [e, nt4] at hD4; cases hD4
      refine ⟨_, hD6, by rw [List.length_map]; omega, ex_new x1.tab x6 nD, ps ++ [t], ?_, by rw [List.length_append, hpl]; rfl, fun j q z2 h1 h2 => ?_⟩
      · rw [upd_same, List.map_append]; rfl
      · by_cases hj : j < ps.length
        · rw [List.getElem?_append_left hj] at h1
          have h0 := x46.tup (hps j q z2 h1 h2)
          rw [upd_ne (fun e => by rw [e, hD6] at h0; cases h0)]
          exact h0
        · have hl2 := (List.getElem?_eq_some_iff.mp h1).1
          rw [List.length_append, List.length_singleton] at hl2
          have ej : j = i := by omega
          subst ej
          rw [List.getElem?_append_right (by omega), hpl, Nat.sub_self] at h1
          cases h1
          rw [hy] at h2
          cases h2
          rw [upd_ne nDt.symm]
          exact ht
    · rintro H4 ⟨x4, ps, hD4, hpl, hps⟩
      rw [List.length_map] at hpl
      refine k D ps H4 (x1.trans x4) (x1.old _ nD) hD4 ⟨by unfold rowsT; rw [List.length_map]; exact hpl, fun i q z2 h1 h2 => ?_⟩
      unfold rowsT at h2
      obtain ⟨l, hl, rfl⟩ := get_map h2
      exact hps i q l h1 hl
/-! ### written -/
def spWrit (K : PySem.W.Frag) (cs : List (Addr × Addr)) : Sp := fun vs H Q _ => ∃ (a : Addr) (as : List Addr) (rows : List (List Str)), vs = [.ref a] ∧ Tabs cs H ∧ PageAt K H a as rows ∧ PgOk rows ∧ ∀ H', Ex cs H H' → Q (.str (pageT rows)) H'
theorem sumLeT (m : Nat) : ∀ (ys : List Str), (∀ y ∈ ys, y.length ≤ m) → (ys.map (·.length)).sum ≤ ys.length * m
  | [], _ => Nat.zero_le _
  | y :: ys, h => by
    have h1 := h y (by simp)
    have h2 := sumLeT m ys fun x hx => h x (by simp [hx])
    rw [List.map_cons, List.sum_cons, List.length_cons, Nat.add_mul]
    omega
theorem sc_writ : FnScope ["page", "row"] ["page"] (defScope s_written) := ⟨rfl, rfl, rfl, by decide +kernel, rfl, by decide +kernel, by decide +kernel⟩
theorem ok_writ {f g1 : Addr} {fd fd1 : FuncData} (eT : ∃ t, mg "TAB" = some (.str tabS t)) (eL : ∃ t, mg "LINE_END" = some (.str lineS t)) (F : Fun K "written" "written" s_written f fd)
    (G1 : FnOk P w K mg base CX0 11 g1 fd1 ["page"] (spCheck K cs)) (k1 : PySem.W.keepIn K (.ref g1) = true) (b1 : Binds K fd1 ["page"] []) (m1 : mg "check_page" = some (.ref g1)) : FnOk P w K mg base CX0 12 f fd ["page"] (spWrit K cs) := by
  refine F.ok sc_writ (fun vs H Q E h => ?_) (fun cdv A outer s H vs Q E hr h => ?_)
  · obtain ⟨a, as, rows, rfl, _⟩ := h
    rfl
  · obtain ⟨a, as, rows, rfl, hT, hP, hO, k⟩ := h
    have nd := sc_writ.nd
    obtain ⟨tt, eT⟩ := eT
    obtain ⟨tl, eL⟩ := eL
    have szl : (1000 : Nat) < sizeLine := by decide
    refine ⟨_, pss_cons (ps_expr (pe_call G1 hr (by rfl) m1 k1 b1 .nil pass0 (pa_cons (pv 0) pa_nil))) (pss_one (ps_ret (pe_join (pe_glob (v := .str lineS) rfl eL ⟨_, rfl⟩)
      (pe_lc (own := [("row", 1)]) (g := gName 1) (tt := tYes) rfl nd (pi_list (pv 0)) (blkOk_by (own := [("row", 1)]) (N := ["page", "row"]) (sc := defScope s_written) (by decide +kernel)) (fun _ _ _ _ _ => pg_name (i := 1) nd rfl (Or.inl rfl)) (fun _ _ _ _ _ => pts_nil)
        (fun s1 H1 C1 cl1 fp1 => show PE _ _ (tM1 (rJoin K) (tC (.str tabS)) (tVar 1)) from pe_join (pe_glob (v := .str tabS) (by rfl) eT ⟨_, rfl⟩) (pv 1)))))), ?_⟩
    have hrl : ∀ r ∈ rows, r.length ≤ 6 ∧ ∀ z ∈ r, z.length ≤ 10 := fun r hr => ⟨(hO.rows r hr).2, fun z hz => ((hO.rows r hr).3 z hz).1⟩
    have hl := hO.len
    refine ⟨_, rfl, a, as, rows, rfl, hT, hP, hO, fun H1 x1 => ⟨⟨_, rfl⟩, _, rfl, a, rfl, ⟨_, x1.sqL hP.lst⟩, fun D nD => lc_list (xs := as.map V.ref) (fun i H' => Ex cs H1 H' ∧ H' D = some (.lst (sV ((rows.map rowT).take i))))
      ⟨Ex.laid x1.tab nD, upd_same⟩ (fun i H' _ x => x.1.sqL (x1.sqL hP.lst)) ?_ ?_⟩⟩
    · rintro i v H4 hv ⟨x4, hD4⟩
      obtain ⟨q, hq, rfl⟩ := get_map hv
      have hi := (List.getElem?_eq_some_iff.mp hq).1
      obtain ⟨r, hr2⟩ := getP (xs := rows) (i := i) (by rw [← hP.len]; exact hi)
      obtain ⟨l6, l10⟩ := hrl r (List.mem_of_getElem? hr2)
      have hs := sumLeT 10 r l10
      have e1 : tabS.length = 1 := by decide +kernel
      refine ⟨rfl, ⟨_, rfl⟩, _, rfl, _, q, r, rfl, rfl, .inr ((x1.trans x4).sqT (hP.row i q r hq hr2)), by rw [e1]; omega, _, hD4, ?_, ex_new x1.tab x4 nD, ?_⟩
      · rw [List.length_map, List.length_take]; rw [List.length_map]; have := hP.len; omega
      · have e : (rows.map rowT)[i]? = some (rowT r) := by
          rw [List.getElem?_map, hr2]
          rfl
        rw [upd_same, List.take_add_one, e]
        simp [sV]
        rfl
    · rintro H4 ⟨x4, hD4⟩
      have e2 : (rows.map rowT).take (as.map V.ref).length = rows.map rowT := List.take_of_length_le (by rw [List.length_map, List.length_map, hP.len]; exact Nat.le_refl _)
      rw [e2] at hD4
      have hs := sumLeT 66 (rows.map rowT) fun y hy => by
        obtain ⟨r, hr, rfl⟩ := List.mem_map.mp hy
        exact rowT_len (hO.rows r hr)
      rw [List.length_map] at hs
      have e1 : lineS.length = 1 := by decide +kernel
      exact ⟨_, D, rows.map rowT, rfl, rfl, .inl (SqL.of hD4), by rw [e1, List.length_map]; omega, k H4 (x1.trans x4)⟩
end
end TG


namespace TG
open PySem PySem.Spec PyProof.Rows L2 Gx
/-! ### places of this text -/
abbrev nTable : Nat := 49
abbrev s_marks_there : Stmt := top 51
abbrev s_check_mark : Stmt := top 50
abbrev s_those_there : Stmt := top 52
abbrev s_text_of : Stmt := top 53
abbrev s_first_there : Stmt := top 54
def clsB : Stmt → List Stmt
  | .ClassDef _ _ _ b _ _ _ _ _ _ _ => b
  | _ => []
def mth (c i : Nat) : Stmt := (clsB (top c)).getD i (.Pass ⟨0, 0, 0, 0⟩)
/-! ### all but some stays -/
def KM (A : Addr → Prop) (H H' : Hp) : Prop := ∀ c o, H c = some o → (∀ ps, o ≠ .tbl ps) → ¬ A c → H' c = some o
/-- no table, or none of these -/
def NT (cs : List (Addr × Addr)) (c : Addr) (o : HO) : Prop := (∀ ps, o ≠ .tbl ps) ∨ ∀ p ∈ cs, p.2 ≠ c
/-- as KM, other tables stay too -/
def KN (cs : List (Addr × Addr)) (A : Addr → Prop) (H H' : Hp) : Prop := ∀ c o, H c = some o → NT cs c o → ¬ A c → H' c = some o
def Mob (H : Hp) (A : Addr → Prop) : Prop := ∀ c, A c → (∃ us, H c = some (.lst us)) ∨ (∃ C dx fs, H c = some (.ins C dx fs))
section
variable {K : PySem.W.Frag} {A B : Addr → Prop} {H H1 H' : Hp}
theorem KM.of (x : LamX.ExtN H H') : KM A H H' := fun c o h n _ => x c o h n
theorem KM.tr (x : KM A H H1) (y : KM A H1 H') : KM A H H' := fun c o h n m => y c o (x c o h n m) n m
theorem KM.mono (x : KM A H H') (h : ∀ c, A c → B c) : KM B H H' := fun c o e n m => x c o e n fun z => m (h c z)
theorem sqT_km {t : Addr} {xs : List V} (x : KM A H H') (m : Mob H A) (h : SqT K H t xs) : SqT K H' t xs := by
  rcases h with (h | ⟨u, h⟩) | h
  · refine .inl (.inl (x _ _ h (fun ps z => by cases z) fun z => ?_))
    rcases m _ z with ⟨us, e⟩ | ⟨C, dx, fs, e⟩ <;> rw [e] at h <;> cases h
  · refine .inl (.inr ⟨u, x _ _ h (fun ps z => by cases z) fun z => ?_⟩)
    rcases m _ z with ⟨us, e⟩ | ⟨C, dx, fs, e⟩ <;> rw [e] at h <;> cases h
  · exact .inr h
theorem tup_km {t : Addr} {xs : List V} (x : KM A H H') (m : Mob H A) (h : H t = some (.tup xs)) : H' t = some (.tup xs) :=
  x _ _ h (fun ps z => by cases z) fun z => by
    rcases m _ z with ⟨us, e⟩ | ⟨C, dx, fs, e⟩ <;> rw [e] at h <;> cases h
theorem upd_km {a : Addr} {o : HO} : KM (fun c => c = a) H (upd H a o) := fun c u h _ n => by rw [upd_ne n]; exact h
theorem same_ex {cs : List (Addr × Addr)} (x : Same H H') (t : Tabs cs H) : Ex cs H H' :=
  ⟨fun b o h _ => x b o h, fun p hp => by
    obtain ⟨ps, h1, h2⟩ := t p hp
    exact ⟨ps, x _ _ h1, h2⟩, fun b h => same_old x h, fun b o h _ => x b o h⟩
theorem _root_.Gx.Ex.any {cs : List (Addr × Addr)} (x : Ex cs H H') {c : Addr} {o : HO} (h : H c = some o) (n : NT cs c o) : H' c = some o := by
  rcases n with n | n
  · exact x.ext _ _ h n
  · exact x.oth _ _ h n
theorem KN.w {cs : List (Addr × Addr)} (x : KN cs A H H') : KM A H H' := fun c o h n m => x c o h (.inl n) m
theorem KN.same {cs : List (Addr × Addr)} (x : Same H H') : KN cs A H H' := fun c o h _ _ => x c o h
theorem KN.tr {cs : List (Addr × Addr)} (x : KN cs A H H1) (y : KN cs A H1 H') : KN cs A H H' := fun c o h n m => y c o (x c o h n m) n m
end
/-! ### marks and deeds -/
abbrev Deed := Nat × Str × Nat × Bool
def dV (d : Deed) : List V := [.int (d.1 : Nat), .str d.2.1, .int (d.2.2.1 : Nat), .bl d.2.2.2]
def nV (l : List Nat) : List V := l.map fun n => V.int (n : Nat)
def bV (l : List Bool) : List V := l.map V.bl
structure DeedsAt (H : Hp) (dl : Addr) (da : List Addr) (ds : List Deed) : Prop where
  lst : H dl = some (.lst (da.map V.ref))
  len : da.length = ds.length
  at_ : ∀ (i : Nat) (t : Addr) (d : Deed), da[i]? = some t → ds[i]? = some d → H t = some (.tup (dV d))
theorem DeedsAt.same {H H' : Hp} {dl : Addr} {da : List Addr} {ds : List Deed} (o : DeedsAt H dl da ds) (x : Same H H') : DeedsAt H' dl da ds :=
  ⟨x _ _ o.lst, o.len, fun i t d h1 h2 => x _ _ (o.at_ i t d h1 h2)⟩
/-- what a deed makes of what is there -/
def markR (th : List Bool) (d : Deed) : List Bool := if d.2.2.2 = decide (d.2.1 = "") then th.set d.2.2.1 false else th
def thereR (many : Nat) (ds : List Deed) : List Bool := ds.foldl markR (List.replicate many true)
theorem markR_len (th : List Bool) (d : Deed) : (markR th d).length = th.length := by
  unfold markR
  split
  · rw [List.length_set]
  · rfl
theorem thereR_len (many : Nat) (ds : List Deed) : (thereR many ds).length = many := by
  have : ∀ (ds : List Deed) (th : List Bool), (ds.foldl markR th).length = th.length := by
    intro ds
    induction ds with
    | nil => intro th; rfl
    | cons d ds ih => intro th; rw [List.foldl_cons, ih, markR_len]
  unfold thereR
  rw [this, List.length_replicate]
def thoseR (order : List Nat) (there : List Bool) : List Nat := order.filter fun m => there.getD m false
def textR (signs : List Str) (marks : List Nat) : Str := Txt.join "" (marks.map fun m => signs.getD m "")
def firstR (order : List Nat) (there : List Bool) (spot : Nat) : Nat := ((order.drop (order.idxOf spot)).find? fun m => there.getD m false).getD 0
theorem nV_get {l : List Nat} {i m : Nat} (h : l[i]? = some m) : (nV l)[i]? = some (.int (m : Nat)) := by unfold nV; rw [List.getElem?_map, h]; rfl
theorem bV_get {l : List Bool} {i : Nat} (h : i < l.length) : (bV l)[i]? = some (.bl (l.getD i false)) := by
  unfold bV
  rw [List.getElem?_map, List.getElem?_eq_getElem h, List.getD_eq_getElem?_getD, List.getElem?_eq_getElem h]
  rfl
theorem ixN_nat {n j : Nat} (h : j < n) : ixN n ((j : Nat) : Int) = some j := by
  unfold ixN
  have e : ¬ ((j : Int) < 0) := by omega
  simp [e, h]
end TG


namespace TG
open PySem PySem.Spec PyProof.Rows L2
def excNm : List Str := ["BadPage", "BadStyle", "BadRow", "BadCell", "BadCount", "BadLines", "BadStep", "BadStroke", "BadText", "BadHand", "TooMuch"]
def excFl : List Str := ["row", "", "", "", "", "line", "number", "number", "row", "", ""]
abbrev nmE (j : Nat) : Str := excNm.getD j ""
abbrev flE (j : Nat) : Str := excFl.getD j ""
end TG

namespace TG
open PySem PySem.Spec PyProof.Rows L2
/-! ### the head -/
def dd (i : Nat) (x : Str) : He.DefD := ⟨(x, none), x, x, defArgs (top i), defBody (top i), defScope (top i), [], []⟩
def dm (c i : Nat) (C m : Str) : He.DefD := ⟨(C, some m), m, C ++ "." ++ m, defArgs (mth c i), defBody (mth c i), defScope (mth c i), [], []⟩
def fnL : List He.DefD := [dd 24 "is_whole", dd 25 "is_sign", dd 26 "is_text_of_signs", dd 27 "is_filled", dd 28 "is_row", dd 29 "first_misfit", dd 30 "check_page", dd 31 "check_style", dd 33 "stretches", dd 34 "closed_runs", dd 35 "is_closed", dd 36 "described", dd 37 "stands_right", dd 38 "is_figures", dd 40 "laid", dd 41 "closed_cells", dd 42 "left_ends", dd 43 "begins_of", dd 45 "written", dd 46 "rows_of", dd 50 "check_mark", dd 51 "marks_there", dd 52 "those_there", dd 53 "text_of", dd 54 "first_there", dd 56 "_law_begun", dd 57 "_law_take", dd 58 "_law_alike", dd 59 "_law_told", dd 60 "_law_all", dd 61 "_law_sign", dd 62 "_law_cell", dd 63 "_law_row", dd 64 "_law_page", dd 65 "_law_style", dd 66 "_law_first", dd 67 "_law_shown", dd 68 "_law_too_much", dd 69 "law", dm 49 0 "Table" "__init__", dm 49 1 "Table" "press", dm 49 2 "Table" "rub", dm 49 3 "Table" "back", dm 49 4 "Table" "again", dm 49 5 "Table" "left", dm 49 6 "Table" "right", dm 49 7 "Table" "at", dm 49 8 "Table" "page", dm 49 9 "Table" "begins", dm 49 10 "Table" "told", dm 49 11 "Table" "check_hand", dm 49 12 "Table" "present", dm 49 13 "Table" "near", dm 49 14 "Table" "go", dm 49 15 "Table" "turn", dm 49 16 "Table" "settle"]
def faL : List He.Fa := [.glo "is_whole", .glo "is_sign", .glo "is_text_of_signs", .glo "is_filled", .glo "is_row", .glo "first_misfit", .glo "check_page", .glo "check_style", .glo "stretches", .glo "closed_runs", .glo "is_closed", .glo "described", .glo "stands_right", .glo "is_figures", .glo "laid", .glo "closed_cells", .glo "left_ends", .glo "begins_of", .glo "written", .glo "rows_of", .glo "check_mark", .glo "marks_there", .glo "those_there", .glo "text_of", .glo "first_there", .glo "_law_begun", .glo "_law_take", .glo "_law_alike", .glo "_law_told", .glo "_law_all", .glo "_law_sign", .glo "_law_cell", .glo "_law_row", .glo "_law_page", .glo "_law_style", .glo "_law_first", .glo "_law_shown", .glo "_law_too_much", .glo "law", .int "BLANK" 32, .int "TILDE" 126, .int "PERCENT" 37, .int "MOST_ROWS" 30, .int "MOST_CELLS" 6, .int "MOST_SIGNS" 10, .int "MOST_GAP" 4, .int "MOST_LEAST" 12, .free "isinstance", .free "len", .free "range", .free "max", .free "min", .free "all", .free "str", .free "int", .free "bool", .free "list", .free "tuple", .free "enumerate", .free "ord", .free "zip", .free "ValueError", .glo "Table", .glo "GrowError", .glo "BadPage", .glo "BadStyle", .glo "BadRow", .glo "BadCell", .glo "BadCount", .glo "BadLines", .glo "BadStep", .glo "BadStroke", .glo "BadText", .glo "BadHand", .glo "TooMuch", .cls "Table", .mkr "Table", .exc "BadCell", .exm "BadCell" "GrowError" true, .exc "TooMuch", .exm "TooMuch" "GrowError" true, .exc "BadHand", .exm "BadHand" "GrowError" true, .exc "BadStyle", .exm "BadStyle" "GrowError" true, .exc "BadCount", .exm "BadCount" "GrowError" true, .str "TAB" "\t", .str "LINE_END" "\n", .int "MOST_HANDS" 4, .noat "Table" "style", .noat "Table" "signs", .noat "Table" "order", .noat "Table" "there", .noat "Table" "deeds", .noat "Table" "spots", .noat "Table" "undone", .meth "Table" "press", .meth "Table" "rub", .meth "Table" "back", .meth "Table" "again", .meth "Table" "left", .meth "Table" "right", .meth "Table" "at", .meth "Table" "page", .meth "Table" "begins", .meth "Table" "told", .meth "Table" "check_hand", .meth "Table" "present", .meth "Table" "near", .meth "Table" "go", .meth "Table" "turn", .meth "Table" "settle"]
def tfB : List He.Defn := [("is_text_of_signs", none), ("is_row", none), ("stretches", none), ("described", none), ("stands_right", none)]
def lmL : List He.Defn := [("_law_too_much", none), ("law", none)]
def tfL : List He.Defn := tfB ++ lmL
def exL : PySem.W.Frag → Bool := fun K => (lmL.all fun r => (tfB.all fun q => decide ((He.cT K q).2 ≠ (He.cT K r).2)) && (lmL.all fun q => decide (q = r) || decide ((He.cT K q).2 ≠ (He.cT K r).2)))
def excCB (K : PySem.W.Frag) (D : Addr) : Bool :=
  He.eqO (PySem.W.findIn K (.ref D) "__getattribute__") (some (some (.builtin "BaseException.__getattribute__"))) && (He.eqO (PySem.W.findIn K (.ref D) "__getattr__") (some none) && (decide (PySem.W.subIn K (.ref D) (.type "BaseException") = some true) && (PySem.W.hasDictIn K D && (He.eqO (PySem.W.findIn K (.ref D) "__class__") (some (some (.builtin "object.__class__"))) &&
    (He.eqO (PySem.W.specialIn K (.builtin "object.__class__") "__get__") (some (some (.builtin "getset_descriptor.__get__"))) && (decide (PySem.W.takesIn K (.builtin "object.__class__") = some true) && decide (PySem.W.mroIn K D (.type "object") = some true)))))))
def errsB (K : PySem.W.Frag) : Bool := (List.range 11).all fun j => excCB K (He.ga K (nmE j)) && (decide (PySem.W.exmOne K (.ref (He.ga K (nmE j))) (.ref (He.ga K "GrowError")) = some true) && (decide (PySem.W.kitOne K (.ref (He.ga K (nmE j))) (.type "ValueError") = some true) &&
  (((List.range 11).all fun i => decide (PySem.W.kitOne K (.ref (He.ga K (nmE j))) (.ref (He.ga K (nmE i))) = some (decide (j = i)))) && (decide (flE j = "") || He.eqO (PySem.W.findIn K (.ref (He.ga K (nmE j))) (flE j)) (some none)))))
def constB (K : PySem.W.Frag) : Bool := errsB K
def exC (K : PySem.W.Frag) : Bool := exL K && constB K
end TG

namespace TG
open PySem PySem.Spec PyProof.Rows L2
abbrev hdRow : PySem.W.OpenRow := PySem.W.OpenLaw.row PySem.Challenge.rw_tabgrow_k33_hands_refused
abbrev hdHk : PySem.W.Hook := He.hookX 4 faL fnL [] tfL exC
def hdOb (s : PySem.W.SharedT) : He.AlX := He.obsX 4 faL fnL [] tfL exC (HandSHeadRun.getT s)
theorem hdOb_eq (s : PySem.W.SharedT) : hdOb s = hdHk.obs s.abs := He.obsX_eq (HandSHeadRun.getT_eq s)
def loose0 : List Str := [PySem.Str.ofString "GrowError", PySem.Str.ofString "BadPage", PySem.Str.ofString "BadStyle", PySem.Str.ofString "BadRow", PySem.Str.ofString "BadCell", PySem.Str.ofString "BadCount", PySem.Str.ofString "BadHand", PySem.Str.ofString "TooMuch", PySem.Str.ofString "BadLines", PySem.Str.ofString "BadStep", PySem.Str.ofString "BadStroke", PySem.Str.ofString "BadText", PySem.Str.ofString "MOST_ROWS", PySem.Str.ofString "MOST_CELLS", PySem.Str.ofString "MOST_SIGNS", PySem.Str.ofString "MOST_GAP", PySem.Str.ofString "MOST_LEAST", PySem.Str.ofString "BLANK", PySem.Str.ofString "TILDE", PySem.Str.ofString "PERCENT"]
def loose1 : List Str := [PySem.Str.ofString "TAB", PySem.Str.ofString "LINE_END", PySem.Str.ofString "is_whole", PySem.Str.ofString "is_sign", PySem.Str.ofString "is_text_of_signs", PySem.Str.ofString "is_filled", PySem.Str.ofString "is_row", PySem.Str.ofString "first_misfit", PySem.Str.ofString "check_page", PySem.Str.ofString "check_style", PySem.Str.ofString "stretches", PySem.Str.ofString "closed_runs", PySem.Str.ofString "is_closed", PySem.Str.ofString "described", PySem.Str.ofString "stands_right", PySem.Str.ofString "is_figures", PySem.Str.ofString "laid", PySem.Str.ofString "closed_cells", PySem.Str.ofString "left_ends", PySem.Str.ofString "begins_of"]
def loose2 : List Str := [PySem.Str.ofString "written", PySem.Str.ofString "rows_of", PySem.Str.ofString "MOST_HANDS", PySem.Str.ofString "Table", PySem.Str.ofString "check_mark", PySem.Str.ofString "marks_there", PySem.Str.ofString "those_there", PySem.Str.ofString "text_of", PySem.Str.ofString "first_there", PySem.Str.ofString "_law_begun", PySem.Str.ofString "_law_take", PySem.Str.ofString "_law_alike", PySem.Str.ofString "_law_told", PySem.Str.ofString "_law_all", PySem.Str.ofString "_law_sign", PySem.Str.ofString "_law_cell", PySem.Str.ofString "_law_row", PySem.Str.ofString "_law_page", PySem.Str.ofString "_law_style", PySem.Str.ofString "_law_first"]
def loose3 : List Str := [PySem.Str.ofString "_law_shown", PySem.Str.ofString "_law_too_much"]
def looseL : List Str := loose0 ++ loose1 ++ loose2 ++ loose3
theorem hdRun (w : World) : HandSHeadRun.RunEq hdRow (PySem.W.view hdRow.prog [69]) hdHk hdOb 9000 looseL w := by
  intro os
  kernel_rfl
end TG

namespace TG
open PySem PySem.Spec PyProof.Rows L2 NdefX GenW Gx Lv
/-! ### a text's rows, sign by sign -/
def spl1 (s : Nat) : List Nat → List Nat → List (List Nat)
  | acc, [] => [acc]
  | acc, c :: l => if c = s then acc :: spl1 s [] l else spl1 s (acc ++ [c]) l
theorem spl_one (s : Nat) : ∀ (l acc : List Nat), TL.spl [s] 0 acc l = spl1 s acc l
  | [], acc => rfl
  | c :: r, acc => by
    have hp : TL.pre [s] (c :: r) = decide (c = s) := by
      show (List.take 1 (c :: r) == [s]) = _
      by_cases h : c = s
      · subst h; simp
      · simp [h]
    unfold TL.spl spl1
    rw [hp]
    by_cases h : c = s
    · rw [if_pos (decide_eq_true h), if_pos h]
      rw [← spl_one s r []]
      rfl
    · rw [if_neg (by rw [decide_eq_false h]; exact Bool.false_ne_true), if_neg h]
      exact spl_one s r _
theorem spl1_ne (s : Nat) : ∀ (l acc : List Nat), spl1 s acc l ≠ []
  | [], acc => by simp [spl1]
  | c :: r, acc => by
    unfold spl1
    split
    · simp
    · exact spl1_ne s r _
theorem spl1_mem (s : Nat) : ∀ (l acc : List Nat) (p : List Nat), p ∈ spl1 s acc l → s ∉ acc → s ∉ p ∧ ∀ c ∈ p, c ∈ acc ∨ c ∈ l
  | [], acc, p, h, ha => by
    unfold spl1 at h
    rw [List.mem_singleton] at h
    subst h
    exact ⟨ha, fun c hc => .inl hc⟩
  | c :: r, acc, p, h, ha => by
    unfold spl1 at h
    split at h
    · rename_i hcs
      rcases List.mem_cons.mp h with rfl | h
      · exact ⟨ha, fun d hd => .inl hd⟩
      · obtain ⟨h1, h2⟩ := spl1_mem s r [] p h (by simp)
        exact ⟨h1, fun d hd => by
          rcases h2 d hd with z | z
          · cases z
          · exact .inr (List.mem_cons_of_mem _ z)⟩
    · rename_i hcs
      obtain ⟨h1, h2⟩ := spl1_mem s r (acc ++ [c]) p h (fun z => by
        rcases List.mem_append.mp z with z | z
        · exact ha z
        · exact hcs (List.mem_singleton.mp z).symm)
      exact ⟨h1, fun d hd => by
        rcases h2 d hd with z | z
        · rcases List.mem_append.mp z with z | z
          · exact .inl z
          · rw [List.mem_singleton.mp z]; exact .inr List.mem_cons_self
        · exact .inr (List.mem_cons_of_mem _ z)⟩
theorem spl1_end (s : Nat) : ∀ (l acc : List Nat), spl1 s acc (l ++ [s]) = spl1 s acc l ++ [[]]
  | [], acc => by simp [spl1]
  | c :: r, acc => by
    show spl1 s acc (c :: (r ++ [s])) = _
    unfold spl1
    split
    · rw [spl1_end s r []]; rfl
    · exact spl1_end s r _
theorem spl1_more (s c : Nat) (hc : c ≠ s) : ∀ (l acc : List Nat) (R : List (List Nat)) (C : List Nat), spl1 s acc l = R ++ [C] → spl1 s acc (l ++ [c]) = R ++ [C ++ [c]]
  | [], acc, R, C, h => by
    unfold spl1 at h
    have e : R = [] ∧ C = acc := by
      cases R with
      | nil => injection h with h _; exact ⟨rfl, h.symm⟩
      | cons x R => injection h with _ h; cases R <;> cases h
    obtain ⟨rfl, rfl⟩ := e
    simp [spl1, hc]
  | d :: r, acc, R, C, h => by
    show spl1 s acc (d :: (r ++ [c])) = _
    unfold spl1 at h ⊢
    split
    · rename_i hd
      rw [if_pos hd] at h
      cases R with
      | nil =>
        injection h with _ h
        exact absurd h (spl1_ne s r [])
      | cons x R =>
        injection h with h1 h2
        rw [spl1_more s c hc r [] R C h2, h1]
        rfl
    · rename_i hd
      rw [if_neg hd] at h
      exact spl1_more s c hc r _ R C h
/-- what is gone on with: cells, a cell, and the signs to come, the last of which is a line's end -/
def goR : List (List Nat) → List Nat → List Nat → List (List (List Nat))
  | _, _, [] => []
  | R, C, c :: l => if c = 9 then goR (R ++ [C]) [] l else if c = 10 then (R ++ [C]) :: goR [] [] l else goR R (C ++ [c]) l
theorem go_split : ∀ (l acc : List Nat) (R : List (List Nat)) (C : List Nat), spl1 9 [] acc = R ++ [C] → (spl1 10 acc l).map (spl1 9 []) = goR R C (l ++ [10])
  | [], acc, R, C, h => by
    show [spl1 9 [] acc] = goR R C [10]
    rw [h]
    rfl
  | c :: l, acc, R, C, h => by
    show (spl1 10 acc (c :: l)).map (spl1 9 []) = goR R C (c :: (l ++ [10]))
    unfold spl1 goR
    by_cases h9 : c = 9
    · subst h9
      rw [if_neg (by decide), if_pos rfl]
      exact go_split l _ _ _ (by rw [spl1_end, h])
    · rw [if_neg h9]
      by_cases h10 : c = 10
      · rw [if_pos h10, if_pos h10, List.map_cons, h, go_split l [] [] [] rfl]
      · rw [if_neg h10, if_neg h10]
        exact go_split l _ _ _ (spl1_more 9 c h9 acc [] R C h)
theorem rowsT_cl (z : Str) : (rowsT z).map (List.map cl) = goR [] [] (cl z ++ [10]) := by
  have e1 := split_clL z lineS (by rw [cl_lineS]; decide) kind_line
  rw [cl_lineS, spl_one] at e1
  rw [← go_split (cl z) [] [] [] rfl, ← e1, List.map_map]
  unfold rowsT
  rw [List.map_map]
  apply List.map_congr_left
  intro p _
  have e2 := split_clL p tabS (by rw [cl_tabS]; decide) kind_tab
  rw [cl_tabS, spl_one] at e2
  exact e2
/-- signs, tabs and line ends -/
def TxtSg (z : Str) : Prop := ∀ c ∈ cl z, SgOk c ∨ c = 9 ∨ c = 10
theorem rowsT_sg {z : Str} (h : TxtSg z) : ∀ r ∈ rowsT z, ∀ x ∈ r, (∀ c ∈ cl x, SgOk c) ∧ x.length ≤ z.length := by
  intro r hr x hx
  unfold rowsT at hr
  obtain ⟨p, hp, rfl⟩ := List.mem_map.mp hr
  have l1 := split_pieceL (by rw [cl_lineS]; decide) kind_line hp
  have l2 := split_pieceL (by rw [cl_tabS]; decide) kind_tab hx
  have e1 := split_clL z lineS (by rw [cl_lineS]; decide) kind_line
  rw [cl_lineS, spl_one] at e1
  have e2 := split_clL p tabS (by rw [cl_tabS]; decide) kind_tab
  rw [cl_tabS, spl_one] at e2
  have m1 : cl p ∈ spl1 10 [] (cl z) := by rw [← e1]; exact List.mem_map_of_mem hp
  have m2 : cl x ∈ spl1 9 [] (cl p) := by rw [← e2]; exact List.mem_map_of_mem hx
  obtain ⟨a1, a2⟩ := spl1_mem 10 _ _ _ m1 (by simp)
  obtain ⟨b1, b2⟩ := spl1_mem 9 _ _ _ m2 (by simp)
  refine ⟨fun c hc => ?_, by omega⟩
  rcases b2 c hc with q | q
  · cases q
  rcases a2 c q with q2 | q2
  · cases q2
  rcases h c q2 with q3 | q3 | q3
  · exact q3
  · rw [q3] at hc; exact absurd hc b1
  · rw [q3] at q; exact absurd q a1
theorem rowsT_pos (z : Str) : 1 ≤ (rowsT z).length ∧ ∀ r ∈ rowsT z, 1 ≤ r.length := by
  have ne : ∀ (x y : Str), cl y ≠ [] → Builtin.Str.strKind y = 1 → (∃ s, cl y = [s]) → 1 ≤ (Txt.split x y).length := fun x y h0 hk ⟨s, hs⟩ => by
    have e := split_clL x y h0 hk
    rw [hs, spl_one] at e
    have h := spl1_ne s (cl x) []
    rw [← e] at h
    cases q : Txt.split x y with
    | nil => rw [q] at h; exact absurd rfl h
    | cons a b => simp
  refine ⟨?_, fun r hr => ?_⟩
  · unfold rowsT
    rw [List.length_map]
    exact ne z lineS (by rw [cl_lineS]; decide) kind_line ⟨10, cl_lineS⟩
  · unfold rowsT at hr
    obtain ⟨p, _, rfl⟩ := List.mem_map.mp hr
    exact ne p tabS (by rw [cl_tabS]; decide) kind_tab ⟨9, cl_tabS⟩
theorem rowsT_len {z : Str} (h : z.length ≤ 1000000) : (rowsT z).length ≤ 1000002 ∧ ∀ r ∈ rowsT z, r.length ≤ 1000002 := by
  refine ⟨?_, fun r hr => ?_⟩
  · unfold rowsT
    rw [List.length_map]
    exact Nat.le_trans (PyProof.Rows.split_le z _) (by omega)
  · unfold rowsT at hr
    obtain ⟨p, hp, rfl⟩ := List.mem_map.mp hr
    have l1 := split_pieceL (by rw [cl_lineS]; decide) kind_line hp
    exact Nat.le_trans (PyProof.Rows.split_le p _) (by omega)
/-! ### which row can't be -/
def fitR (r : List Str) : Bool := decide (r.length ≤ 6) && r.all fun z => decide (z.length ≤ 10)
structure BadAt (rows : List (List Str)) (n : Nat) : Prop where
  lt : n < rows.length
  n30 : n ≤ 30
  bad : n = 30 ∨ ∃ r, rows[n]? = some r ∧ fitR r = false
  ok : ∀ i r, i < n → rows[i]? = some r → fitR r = true
def GoodR (rows : List (List Str)) : Prop := rows.length ≤ 30 ∧ ∀ r ∈ rows, fitR r = true
theorem good_or (rows : List (List Str)) : GoodR rows ∨ ∃ n, BadAt rows n := by
  have key : ∀ n, n ≤ rows.length → n ≤ 30 → (∃ m, BadAt rows m) ∨ ∀ i r, i < n → rows[i]? = some r → fitR r = true := by
    intro n
    induction n with
    | zero => exact fun _ _ => .inr fun i r h => absurd h (Nat.not_lt_zero _)
    | succ n ih =>
      intro h1 h2
      rcases ih (by omega) (by omega) with h | h
      · exact .inl h
      · obtain ⟨r, hr⟩ := getP (xs := rows) (i := n) (by omega)
        cases hf : fitR r with
        | false => exact .inl ⟨n, by omega, by omega, .inr ⟨r, hr, hf⟩, h⟩
        | true =>
          refine .inr fun i q hi hq => ?_
          by_cases e : i = n
          · subst e; rw [hr] at hq; cases hq; exact hf
          · exact h i q (by omega) hq
  by_cases hl : rows.length ≤ 30
  · rcases key rows.length (Nat.le_refl _) hl with h | h
    · exact .inr h
    · refine .inl ⟨hl, fun r hr => ?_⟩
      obtain ⟨i, hi, e⟩ := List.getElem_of_mem hr
      exact h i r hi (by rw [List.getElem?_eq_getElem hi, e])
  · rcases key 30 (by omega) (Nat.le_refl _) with h | h
    · exact .inr h
    · exact .inr ⟨30, by omega, Nat.le_refl _, .inl rfl, h⟩
theorem good_pg {z : Str} (h : TxtSg z) (g : GoodR (rowsT z)) : PgOk (rowsT z) := by
  refine ⟨(rowsT_pos z).1, g.1, fun r hr => ?_⟩
  have f := g.2 r hr
  unfold fitR at f
  rw [Bool.and_eq_true, List.all_eq_true] at f
  exact ⟨(rowsT_pos z).2 r hr, of_decide_eq_true f.1, fun x hx => ⟨of_decide_eq_true (f.2 x hx), (rowsT_sg h r hr x hx).1⟩⟩
end TG


namespace TG
open PySem PySem.Spec PyProof.Rows L2 NdefX GenW Gx Lv
/-! ### what is refused of a text -/
section
variable {P : Program} {w : World} {K : PySem.W.Frag} {mg : Str → Option Value} {base : Heap} {cs : List (Addr × Addr)}
def spText3 (cs : List (Addr × Addr)) : Sp := fun vs H Q _ => ∃ (z : Str) (m : Int), vs = [.str z, .int m] ∧ Tabs cs H ∧ z.length ≤ 1000000 ∧ (∀ c ∈ z.cps.toList, SgOk c) ∧ ∀ H', Ex cs H H' → Q (.bl (decide ((z.length : Int) ≤ m))) H'
theorem ok_text3 {f c Pt g : Addr} {fd fdg : FuncData} (T : Txt mg) (F : Fun K "is_text_of_signs" "is_text_of_signs" s_is_text f fd) (hc : fd.code = .ref c) (TB : GxR.TabB base mg c Pt) (hm : (c, Pt) ∈ cs)
    (G : FnOk P w K mg base CX0 1 g fdg ["sign"] spSg) (kp : PySem.W.keepIn K (.ref g) = true) (bd : Binds K fdg ["sign"] []) (mgg : mg "is_sign" = some (.ref g)) : FnOk P w K mg base CX0 5 f fd ["value", "most"] (spText3 cs) := by
  refine fun_okT F hc sc_text (fun vs H Q E h => ?_) (fun A outer s H vs Q E hr h => ?_)
  · obtain ⟨z, m, rfl, _⟩ := h
    rfl
  · obtain ⟨z, m, rfl, hT, h2, h3, k⟩ := h
    have szl : (10000000 : Nat) < sizeLine := by decide
    refine ⟨_, pss_one (ps_ret (pe_and (pe_callB call_isi (by rfl) T.isin (by decide +kernel) (pa_cons (pv 0) (pa_cons (pe_bltn (v := .ty "str") (by rfl) T.str (by decide +kernel) rfl) pa_nil)))
      (pe_and (pe_cmpR op_le (pe_callB call_len_str (by rfl) T.len PySem.boot_len (pa_cons (pv 0) pa_nil)) (pv 1) (nomark _))
        (pe_one (pe_allG (k := 1) (P := Pt) hr (by rfl) T.all TB rfl ⟨rfl, rfl, by decide +kernel, by decide +kernel, rfl, rfl⟩ (pi_str (pv 0)) (fun A' code s4 H4 fp hr' => pe_call G hr' (by rfl) mgg kp bd .nil pass0 (pa_cons (pv 0) pa_nil)) (fun _ => rfl)))))), ?_⟩
    by_cases h1 : (z.length : Int) ≤ m
    · rw [decide_eq_true h1] at k
      refine ⟨_, rfl, _, _, _, _, true, rfl, .ty _, .base (.str z), kit_ty (by decide +kernel), true, rfl, iteT ⟨_, rfl, z, rfl, by omega, _, rfl, _, _, rfl, rfl, true, dT h1, iteT ⟨_, rfl, z, rfl, hT _ hm, fun H2 hH2 => ?_⟩⟩⟩
      refine all_by (w := walk_str (z := z)) (fun _ => true) (fun _ H' => H' = H2) rfl (fun _ _ _ _ => trivial) (fun i v H3 H4 hi e y Z hZ => ?_) (fun H3 e _ => ?_) (fun i H3 _ e _ => by cases e)
      · obtain ⟨rfl, c, hc, rfl⟩ := y
        subst e
        refine ⟨_, rfl, c, rfl, h3 c ?_, hZ _ rfl⟩
        exact List.mem_of_getElem? (by rw [Array.getElem?_toList]; exact hc)
      · subst e
        exact k _ (Ex.tabbed hT hm hH2)
    · rw [decide_eq_false h1] at k
      exact ⟨_, rfl, _, _, _, _, true, rfl, .ty _, .base (.str z), kit_ty (by decide +kernel), true, rfl, iteT ⟨_, rfl, z, rfl, by omega, _, rfl, _, _, rfl, rfl, false, dF h1, iteF (k H (Ex.refl hT))⟩⟩
structure RowT (r : List Str) : Prop where
  pos : 1 ≤ r.length
  sg : ∀ z ∈ r, ∀ c ∈ cl z, SgOk c
  len : ∀ z ∈ r, z.length ≤ 1000000
def spRow3 (K : PySem.W.Frag) (cs : List (Addr × Addr)) : Sp := fun vs H Q _ => ∃ (a : Addr) (r : List Str), vs = [.ref a] ∧ Tabs cs H ∧ SqT K H a (sV r) ∧ RowT r ∧ ∀ H', Ex cs H H' → Q (.bl (fitR r)) H'
theorem ok_row3 {f c Pt g : Addr} {fd fdg : FuncData} (T : Txt mg) (N : Consts mg) (F : Fun K "is_row" "is_row" s_is_row f fd) (hc : fd.code = .ref c) (TB : GxR.TabB base mg c Pt) (hm : (c, Pt) ∈ cs)
    (W : FnOk P w K mg base CX0 5 g fdg ["value", "most"] (spText3 cs)) (kp : PySem.W.keepIn K (.ref g) = true) (bd : Binds K fdg ["value", "most"] []) (mgg : mg "is_text_of_signs" = some (.ref g)) : FnOk P w K mg base CX0 9 f fd ["value"] (spRow3 K cs) := by
  refine fun_okT F hc sc_row (fun vs H Q E h => ?_) (fun A outer s H vs Q E hr h => ?_)
  · obtain ⟨a, r, rfl, _⟩ := h
    rfl
  · obtain ⟨a, r, rfl, hT, hS, hL, k⟩ := h
    obtain ⟨t1, e1⟩ := N.cells
    obtain ⟨t2, e2⟩ := N.signs
    refine ⟨_, pss_cons (ps_if (PW.pt (pw_or (pt_not (pt_val (pe_callB call_isi (by rfl) T.isin (by decide +kernel) (pa_cons (pv 0) (pa_cons (pe_bltn (v := .ty "tuple") (by rfl) T.tuple (by decide +kernel) rfl) pa_nil)))))
        (pw_or1 (pt_not (pt_chain op_le op_le pe_int (pe_callB call_len_seq (by rfl) T.len PySem.boot_len (pa_cons (pv 0) pa_nil)) (pe_glob (v := .int 6) rfl e1 ⟨_, rfl⟩)))))) (pss_one (ps_ret pe_bl)) pss_nil)
      (pss_one (ps_ret (pe_allG (k := 5) (P := Pt) hr (by rfl) T.all TB rfl ⟨rfl, rfl, by decide +kernel, by decide +kernel, rfl, rfl⟩ (pi_tup (pv 0))
        (fun A' code s4 H4 fp hr' => pe_call W hr' (by rfl) mgg kp bd .nil pass0 (pa_cons (pv 0) (pa_cons (pe_glob (v := .int 10) rfl e2 ⟨_, rfl⟩) pa_nil))) (fun _ => rfl)))), ?_⟩
    have hl : (sV r).length = r.length := List.length_map ..
    have hpos := hL.pos
    refine ⟨_, rfl, _, _, _, _, true, rfl, .ty _, ty_tup hS, kit_ty (by decide +kernel), true, rfl, iteF ⟨_, rfl, a, _, rfl, .inr hS, 1, _, rfl, rfl, true, dT (by omega), iteT ⟨_, 6, rfl, rfl, ?_⟩⟩⟩
    by_cases h6 : r.length ≤ 6
    · refine ⟨true, dT (by omega), iteF ⟨_, rfl, a, rfl, ⟨_, hS⟩, hT _ hm, fun H2 hH2 => ?_⟩⟩
      have x2 := Ex.tabbed hT hm hH2
      have ef : fitR r = r.all fun z => decide (z.length ≤ 10) := by unfold fitR; rw [decide_eq_true h6, Bool.true_and]
      refine all_by (w := walk_tup (a := a) (xs := sV r)) (fun i => match r[i]? with | some z => decide (z.length ≤ 10) | none => true) (fun _ H' => Ex cs H H') x2 (fun i H' _ x => x.sqT hS) (fun i v H3 H4 hi x y Z hZ => ?_) (fun H3 x hall => ?_) (fun i H3 hi hff x => ?_)
      · obtain ⟨rfl, hv⟩ := y
        obtain ⟨z, hz, rfl⟩ := get_map hv
        have zm := List.mem_of_getElem? hz
        refine ⟨_, rfl, z, 10, rfl, x.tab, hL.len z zm, hL.sg z zm, fun H5 x5 => ?_⟩
        have := hZ _ (x.trans x5)
        rw [hz] at this
        have e : decide ((z.length : Int) ≤ 10) = decide (z.length ≤ 10) := by
          by_cases q : z.length ≤ 10
          · rw [decide_eq_true q, decide_eq_true (by omega)]
          · rw [decide_eq_false q, decide_eq_false (by omega)]
        rw [e]
        exact this
      · have e : fitR r = true := by
          rw [ef, List.all_eq_true]
          intro z hz
          obtain ⟨i, hi, e⟩ := List.getElem_of_mem hz
          have q := hall i (by omega)
          rw [List.getElem?_eq_getElem hi, e] at q
          exact q
        rw [← e]
        exact k _ x
      · have e : fitR r = false := by
          rw [ef, Bool.eq_false_iff]
          intro q
          rw [List.all_eq_true] at q
          have hi2 : i < r.length := by omega
          rw [List.getElem?_eq_getElem hi2] at hff
          have := q _ (List.getElem_mem hi2)
          rw [show decide (r[i].length ≤ 10) = false from hff] at this
          cases this
        rw [← e]
        exact k _ x
    · refine ⟨false, dF (by omega), iteT ?_⟩
      have e : fitR r = false := by unfold fitR; rw [decide_eq_false h6, Bool.false_and]
      rw [← e]
      exact k _ (Ex.refl hT)
def spMisB (K : PySem.W.Frag) (cs : List (Addr × Addr)) : Sp := fun vs H Q _ => ∃ (a : Addr) (as : List Addr) (rows : List (List Str)) (n : Nat), vs = [.ref a] ∧ Tabs cs H ∧ PageAt K H a as rows ∧ (∀ r ∈ rows, RowT r) ∧ BadAt rows n ∧ ∀ H', Ex cs H H' → Q (.int (n : Nat)) H'
theorem ok_misB {f g : Addr} {fd fdg : FuncData} (T : Txt mg) (N : Consts mg) (F : Fun K "first_misfit" "first_misfit" s_misfit f fd)
    (G : FnOk P w K mg base CX0 9 g fdg ["value"] (spRow3 K cs)) (kp : PySem.W.keepIn K (.ref g) = true) (bd : Binds K fdg ["value"] []) (mgg : mg "is_row" = some (.ref g)) : FnOk P w K mg base CX0 10 f fd ["rows"] (spMisB K cs) := by
  refine F.ok sc_misfit (fun vs H Q E h => ?_) (fun cdv A outer s H vs Q E hr h => ?_)
  · obtain ⟨a, as, rows, n, rfl, _⟩ := h
    rfl
  · obtain ⟨a, as, rows, n, rfl, hT, hP, hO, hB, k⟩ := h
    have nd := sc_misfit.nd
    obtain ⟨t1, e1⟩ := N.rows
    refine ⟨_, pss_cons (ps_for PassesOwn.never rfl (pi_enum (by rfl) T.enum (pa_cons (pv 0) pa_nil)) (pg_tup rfl (pgs_cons (pg_name (i := 1) nd rfl (.inl rfl)) (pgs_cons (pg_name (i := 2) nd rfl (.inl rfl)) pgs_nil)))
        (pss_one (ps_if (PW.pt (pw_or (pt_cmpR op_eq (pv 1) (pe_glob (v := .int 30) rfl e1 ⟨_, rfl⟩) (nomark _)) (pw_or1 (pt_not (pt_val (pe_call G hr (by rfl) mgg kp bd .nil pass0 (pa_cons (pv 2) pa_nil))))))) (pss_one (ps_ret (pv 1))) pss_nil)))
      (pss_one ps_never), ?_⟩
    have hl : (as.map V.ref).length = rows.length := by rw [List.length_map]; exact hP.len
    have hlt := hB.lt
    refine ⟨_, rfl, a, _, rfl, hP.lst, for_it (walk_enum (xs := as.map V.ref)) (fun i σ H' => i ≤ n ∧ Ex cs H H' ∧ σ[0]? = some (some (.ref a)) ∧ σ.length = 3) ⟨Nat.zero_le _, Ex.refl hT, rfl, rfl⟩ (fun i σ H' _ x => x.2.1.sqL hP.lst) ?_ ?_⟩
    · rintro i x σ H3 H4 hi ⟨hin, x3, s0, sl⟩ ⟨Tp, v, u, rfl, hn, rfl, hv, hu⟩
      cases hv
      obtain ⟨p, hp, rfl⟩ := get_map hu
      have hi2 : i < rows.length := by omega
      obtain ⟨r, hr2⟩ := getP hi2
      have xl := Ex.laid (o := .tup [.int (i : Nat), .ref p]) x3.tab hn
      refine ⟨Tp, _, rfl, .inl (.inl upd_same), rfl, _, _, rfl, _, _, rfl, rfl, ?_⟩
      have g1 : ((σ.set 1 (some (V.int (i : Nat)))).set 2 (some (V.ref p)))[1]? = some (some (V.int (i : Nat))) := by
        rw [List.getElem?_set_ne (by decide)]
        exact List.getElem?_set_self (by omega)
      have g2 : ((σ.set 1 (some (V.int (i : Nat)))).set 2 (some (V.ref p)))[2]? = some (some (V.ref p)) := List.getElem?_set_self (by rw [List.length_set]; omega)
      have n30 := hB.n30
      by_cases h30 : i = 30
      · have ein : i = n := by omega
        subst ein
        exact ⟨_, g1, rfl, true, dT (by rw [h30]; rfl), iteT (iteT ⟨_, g1, k _ (x3.trans xl)⟩)⟩
      · refine ⟨_, g1, rfl, false, dF (fun z => by injection z with z; omega), iteF ⟨_, g2, p, r, rfl, xl.tab, (x3.trans xl).sqT (hP.row i p r hp hr2), hO r (List.mem_of_getElem? hr2), fun H5 x5 => ⟨_, rfl, ?_⟩⟩⟩
        by_cases hlt2 : i < n
        · rw [hB.ok i r hlt2 hr2]
          refine iteF ⟨by omega, (x3.trans xl).trans x5, ?_, ?_⟩
          · rw [List.getElem?_set_ne (by decide), List.getElem?_set_ne (by decide)]; exact s0
          · rw [List.length_set, List.length_set]; exact sl
        · have ein : i = n := by omega
          subst ein
          rcases hB.bad with q | ⟨r2, h1, h2⟩
          · exact absurd q h30
          · rw [hr2] at h1
            cases h1
            rw [h2]
            exact iteT ⟨_, g1, k _ ((x3.trans xl).trans x5)⟩
    · rintro σ H' ⟨hin, _⟩
      omega
end
end TG


namespace TG
open PySem PySem.Spec PyProof.Rows L2 Gx
section
variable {P : Program} {w : World} {K : PySem.W.Frag} {mg : Str → Option Value} {base : Heap} {cs : List (Addr × Addr)}
/-! ### those_there -/
def spThose (K : PySem.W.Frag) : Sp := fun vs H Q _ => ∃ (ol tl : Addr) (order : List Nat) (there : List Bool), vs = [.ref ol, .ref tl] ∧ SqL K H ol (nV order) ∧ SqL K H tl (bV there) ∧ (∀ m ∈ order, m < there.length) ∧ order.length ≤ 10000 ∧
  ∀ (D : Addr), H D = none → Q (.ref D) (upd H D (.lst (nV (thoseR order there))))
theorem sc_those : FnScope ["order", "there", "mark"] ["order", "there"] (defScope s_those_there) := ⟨rfl, rfl, rfl, by decide +kernel, rfl, by decide +kernel, by decide +kernel⟩
theorem thoseR_take {order : List Nat} {there : List Bool} {i m : Nat} (h : order[i]? = some m) : thoseR (order.take (i + 1)) there = thoseR (order.take i) there ++ (if there.getD m false = true then [m] else []) := by
  unfold thoseR
  rw [List.take_add_one, h, List.filter_append]
  congr 1
  rw [Option.toList_some, List.filter_cons, List.filter_nil]
theorem ok_those {f : Addr} {fd : FuncData} (F : Fun K "those_there" "those_there" s_those_there f fd) : FnOk P w K mg base CX0 1 f fd ["order", "there"] (spThose K) := by
  refine F.ok sc_those (fun vs H Q E h => ?_) (fun cdv A outer s H vs Q E hr h => ?_)
  · obtain ⟨ol, tl, order, there, rfl, _⟩ := h
    rfl
  · obtain ⟨ol, tl, order, there, rfl, h1, h2, hm, hl, k⟩ := h
    have nd := sc_those.nd
    have szl : (10000 : Nat) < sizeLine := by decide
    refine ⟨_, pss_one (ps_ret (pe_lc (own := [("mark", 2)]) (g := gName 2) rfl nd (pi_list (pv 0)) (blkOk_by (own := [("mark", 2)]) (N := ["order", "there", "mark"]) (sc := defScope s_those_there) (by decide +kernel))
        (fun _ _ _ _ _ => pg_name (i := 2) nd rfl (Or.inl rfl)) (fun _ _ _ _ _ => pts_one (pt_val (pe_ix (r := rIxL K) ix_list (pv 1) (pv 2) (fun _ _ => rfl)))) (fun _ _ _ _ _ => pv 2))), ?_⟩
    refine ⟨_, rfl, ol, rfl, ⟨_, h1⟩, fun D nD => lc_list (xs := nV order) (fun i H' => H' = upd H D (.lst (nV (thoseR (order.take i) there)))) rfl (fun i H' _ x => by rw [x]; exact same_sqL (same_new nD) h1) ?_ ?_⟩
    · rintro i x H' hx rfl
      obtain ⟨m, hmm, rfl⟩ := get_map hx
      have lt := hm m (List.mem_of_getElem? hmm)
      refine ⟨rfl, _, rfl, _, rfl, tl, _, _, _, rfl, rfl, same_sqL (same_new nD) h2, atI_nat (bV_get lt), there.getD m false, rfl, ?_⟩
      rw [thoseR_take hmm]
      cases e : there.getD m false with
      | true =>
        refine iteT ⟨_, rfl, _, upd_same, ?_, ?_⟩
        · have : (thoseR (order.take i) there).length ≤ (order.take i).length := List.length_filter_le _ _
          rw [List.length_take] at this
          unfold nV
          rw [List.length_map]
          omega
        · rw [upd_upd]
          simp [nV]
      | false =>
        refine iteF ?_
        simp
    · rintro H' rfl
      have e : order.take (nV order).length = order := List.take_of_length_le (by unfold nV; rw [List.length_map]; exact Nat.le_refl _)
      rw [e]
      exact k D nD
/-! ### text_of -/
def spTextOf (K : PySem.W.Frag) : Sp := fun vs H Q _ => ∃ (sl ml : Addr) (signs : List Str) (marks : List Nat), vs = [.ref sl, .ref ml] ∧ SqL K H sl (sV signs) ∧ SqL K H ml (nV marks) ∧ (∀ m ∈ marks, m < signs.length) ∧ marks.length ≤ 10000 ∧ (∀ z ∈ signs, z.length ≤ 1) ∧
  ∀ (H' : Hp), Same H H' → Q (.str (textR signs marks)) H'
theorem sc_textof : FnScope ["signs", "marks", "mark"] ["signs", "marks"] (defScope s_text_of) := ⟨rfl, rfl, rfl, by decide +kernel, rfl, by decide +kernel, by decide +kernel⟩
theorem signs_get {signs : List Str} {m : Nat} (h : m < signs.length) : (sV signs)[m]? = some (.str (signs.getD m "")) := by
  unfold sV
  rw [List.getElem?_map, List.getElem?_eq_getElem h, List.getD_eq_getElem?_getD, List.getElem?_eq_getElem h]
  rfl
theorem sum_ones : ∀ (ys : List Str), (∀ y ∈ ys, y.length ≤ 1) → (ys.map (·.length)).sum ≤ ys.length
  | [], _ => Nat.zero_le _
  | y :: ys, h => by
    have h1 := h y (by simp)
    have h2 := sum_ones ys fun x hx => h x (by simp [hx])
    rw [List.map_cons, List.sum_cons, List.length_cons]
    omega
theorem ok_textof {f : Addr} {fd : FuncData} (F : Fun K "text_of" "text_of" s_text_of f fd) : FnOk P w K mg base CX0 1 f fd ["signs", "marks"] (spTextOf K) := by
  refine F.ok sc_textof (fun vs H Q E h => ?_) (fun cdv A outer s H vs Q E hr h => ?_)
  · obtain ⟨sl, ml, signs, marks, rfl, _⟩ := h
    rfl
  · obtain ⟨sl, ml, signs, marks, rfl, h1, h2, hm, hl, hz, k⟩ := h
    have nd := sc_textof.nd
    have szl : (10000 : Nat) < sizeLine := by decide
    refine ⟨_, pss_one (ps_ret (pe_join pe_str (pe_lc (own := [("mark", 2)]) (g := gName 2) (tt := tYes) rfl nd (pi_list (pv 1)) (blkOk_by (own := [("mark", 2)]) (N := ["signs", "marks", "mark"]) (sc := defScope s_text_of) (by decide +kernel))
        (fun _ _ _ _ _ => pg_name (i := 2) nd rfl (Or.inl rfl)) (fun _ _ _ _ _ => pts_nil) (fun _ _ _ _ _ => pe_ix (r := rIxL K) ix_list (pv 0) (pv 2) (fun _ _ => rfl))))), ?_⟩
    refine ⟨⟨_, rfl⟩, _, rfl, ml, rfl, ⟨_, h2⟩, fun D nD => lc_list (xs := nV marks) (fun i H' => H' = upd H D (.lst (sV ((marks.take i).map fun m => signs.getD m "")))) rfl (fun i H' _ x => by rw [x]; exact same_sqL (same_new nD) h2) ?_ ?_⟩
    · rintro i x H' hx rfl
      obtain ⟨m, hmm, rfl⟩ := get_map hx
      have lt := hm m (List.mem_of_getElem? hmm)
      have li := (List.getElem?_eq_some_iff.mp hmm).1
      refine ⟨rfl, _, rfl, _, rfl, sl, _, _, _, rfl, rfl, same_sqL (same_new nD) h1, atI_nat (signs_get lt), _, upd_same, ?_, ?_⟩
      · unfold sV
        rw [List.length_map, List.length_map, List.length_take]
        omega
      · rw [upd_upd, List.take_add_one, hmm]
        simp [sV]
    · rintro H' rfl
      have e : marks.take (nV marks).length = marks := List.take_of_length_le (by unfold nV; rw [List.length_map]; exact Nat.le_refl _)
      rw [e]
      have hs := sum_ones (marks.map fun m => signs.getD m "") fun y hy => by
        obtain ⟨m, hmm, rfl⟩ := List.mem_map.mp hy
        have lt := hm m hmm
        rw [List.getD_eq_getElem?_getD, List.getElem?_eq_getElem lt]
        exact hz _ (List.getElem_mem lt)
      rw [List.length_map] at hs
      have e0 : ("" : Str).length = 0 := by decide +kernel
      exact ⟨_, D, _, rfl, rfl, .inl (SqL.of upd_same), by rw [e0, List.length_map]; omega, k _ (same_new nD)⟩
/-! ### marks_there -/
def spMarks (K : PySem.W.Frag) : Sp := fun vs H Q _ => ∃ (many : Nat) (dl : Addr) (da : List Addr) (ds : List Deed), vs = [.int (many : Nat), .ref dl] ∧ DeedsAt H dl da ds ∧ (∀ d ∈ ds, d.2.2.1 < many) ∧ many ≤ 10000 ∧
  ∀ (D : Addr) (H' : Hp), Same H H' → H D = none → H' D = some (.lst (bV (thereR many ds))) → Q (.ref D) H'
abbrev nmMarks : List Str := ["many", "deeds", "there", "hand", "sign", "mark", "stands"]
theorem sc_marks : FnScope nmMarks ["many", "deeds"] (defScope s_marks_there) := ⟨rfl, rfl, rfl, by decide +kernel, rfl, by decide +kernel, by decide +kernel⟩
theorem thereR_take {many : Nat} {ds : List Deed} {i : Nat} {d : Deed} (h : ds[i]? = some d) : thereR many (ds.take (i + 1)) = markR (thereR many (ds.take i)) d := by
  unfold thereR
  rw [List.take_add_one, h, Option.toList_some, List.foldl_append, List.foldl_cons, List.foldl_nil]
theorem ok_marks {f : Addr} {fd : FuncData} (F : Fun K "marks_there" "marks_there" s_marks_there f fd) : FnOk P w K mg base CX0 1 f fd ["many", "deeds"] (spMarks K) := by
  refine F.ok sc_marks (fun vs H Q E h => ?_) (fun cdv A outer s H vs Q E hr h => ?_)
  · obtain ⟨many, dl, da, ds, rfl, _⟩ := h
    rfl
  · obtain ⟨many, dl, da, ds, rfl, hD, hm, hl, k⟩ := h
    have nd := sc_marks.nd
    have szl : (10000 : Nat) < sizeLine := by decide
    refine ⟨_, pss_cons (ps_set (i := 2) nd rfl (.inl rfl) (pe_op op_rep (pe_lst (pa_cons pe_bl pa_nil)) (pv 0)))
      (pss_cons (ps_for PassesOwn.never rfl (pi_list (pv 1)) (pg_tup rfl (pgs_cons (pg_name (i := 3) nd rfl (.inl rfl)) (pgs_cons (pg_name (i := 4) nd rfl (.inl rfl)) (pgs_cons (pg_name (i := 5) nd rfl (.inl rfl)) (pgs_cons (pg_name (i := 6) nd rfl (.inl rfl)) pgs_nil)))))
        (pss_one (ps_if (pt_cmpR op_eq (pv 6) (pe_cmpR op_eq (pv 4) pe_str (nomark _)) (nomark _)) (pss_one (ps_asg pe_bl (pg_sub (pv 2) (pv 5) set_list))) pss_nil)))
      (pss_one (ps_ret (pv 2)))), ?_⟩
    refine ⟨by show 1 ≤ sizeLine; decide, fun l0 n0 => ⟨_, rfl, l0, _, _, rfl, rfl, upd_same, by omega, by omega, by simp; omega, fun D nD => ?_⟩⟩
    have x0 := same_new (o := .lst [V.bl true]) n0
    have nD0 : H D = none := same_old x0 nD
    have e0 : (List.replicate ((many : Nat) : Int).toNat [V.bl true]).flatten = bV (List.replicate many true) := by
      simp [bV]
    rw [e0]
    have hx : ∀ {o : HO}, Same H (upd (upd H l0 (.lst [V.bl true])) D o) := same_upd x0 nD0
    refine ⟨_, rfl, dl, rfl, ⟨_, SqL.of (hx _ _ hD.lst)⟩, for_list (xs := da.map V.ref) (fun i σ H' => H' = upd (upd H l0 (.lst [V.bl true])) D (.lst (bV (thereR many (ds.take i)))) ∧ ∃ c3 c4 c5 c6 : Option V, σ = [some (.int (many : Nat)), some (.ref dl), some (.ref D), c3, c4, c5, c6]) ⟨rfl, none, none, none, none, rfl⟩ (fun i σ H' _ x => by rw [x.1]; exact SqL.of (hx _ _ hD.lst)) ?_ ?_⟩
    · rintro i x σ H1 hx1 ⟨rfl, c3, c4, c5, c6, rfl⟩
      obtain ⟨t, ht, rfl⟩ := get_map hx1
      obtain ⟨d, hd⟩ := getP (xs := ds) (i := i) (by rw [← hD.len]; exact (List.getElem?_eq_some_iff.mp ht).1)
      have h3 := hD.at_ i t d ht hd
      have lt := hm d (List.mem_of_getElem? hd)
      refine ⟨t, _, rfl, .inl (.inl (hx _ _ h3)), rfl, _, _, rfl, _, _, rfl, _, _, rfl, _, _, rfl, rfl, ?_⟩
      rw [thereR_take hd]
      refine ⟨_, rfl, _, rfl, rfl, rfl, _, rfl, ?_⟩
      have e1 : decide (V.bl d.2.2.2 = V.bl (decide (V.str d.2.1 = V.str ""))) = decide (d.2.2.2 = decide (d.2.1 = "")) := by
        have : decide (V.str d.2.1 = V.str "") = decide (d.2.1 = "") := by simp
        rw [this]
        simp
      rw [e1]
      by_cases c : d.2.2.2 = decide (d.2.1 = "")
      · rw [decide_eq_true c]
        refine iteT ⟨_, rfl, _, rfl, D, _, _, d.2.2.1, rfl, rfl, upd_same, ixN_nat (by unfold bV; rw [List.length_map, thereR_len]; exact lt), ?_⟩
        refine ⟨?_, _, _, _, _, rfl⟩
        rw [upd_upd]
        unfold markR
        rw [if_pos c]
        simp [bV, List.map_set]
      · rw [decide_eq_false c]
        refine iteF ⟨?_, _, _, _, _, rfl⟩
        unfold markR
        rw [if_neg c]
    · rintro σ H1 ⟨rfl, c3, c4, c5, c6, rfl⟩
      refine ⟨_, rfl, k D _ hx nD0 ?_⟩
      have e : ds.take (da.map V.ref).length = ds := List.take_of_length_le (by rw [List.length_map, hD.len]; exact Nat.le_refl _)
      rw [upd_same, e]
/-! ### first_there -/
def spFirst (K : PySem.W.Frag) : Sp := fun vs H Q _ => ∃ (ol tl : Addr) (order : List Nat) (there : List Bool) (spot : Nat), vs = [.ref ol, .ref tl, .int (spot : Nat)] ∧ SqL K H ol (nV order) ∧ SqL K H tl (bV there) ∧ (∀ m ∈ order, m < there.length) ∧ order.length ≤ 10000 ∧ spot ∈ order ∧
  (∃ m ∈ order.drop (order.idxOf spot), there.getD m false = true) ∧ Q (.int (firstR order there spot : Nat)) H
abbrev nmFirst : List Str := ["order", "there", "spot", "number"]
theorem sc_first : FnScope nmFirst ["order", "there", "spot"] (defScope s_first_there) := ⟨rfl, rfl, rfl, by decide +kernel, rfl, by decide +kernel, by decide +kernel⟩
theorem idx_nat {l : List Nat} {p : Nat} (h : p ∈ l) : l[l.idxOf p]? = some p ∧ l.idxOf p < l.length ∧ ∀ m z, m < l.idxOf p → l[m]? = some z → z ≠ p := by
  have h1 := List.idxOf_lt_length_of_mem h
  refine ⟨by rw [List.getElem?_eq_getElem h1, List.getElem_idxOf], h1, fun m z hm hz e => ?_⟩
  subst e
  have h2 := (List.getElem?_eq_some_iff.mp hz).2
  have h3 : m < l.length := (List.getElem?_eq_some_iff.mp hz).1
  have := List.not_of_lt_findIdx (p := (· == z)) (xs := l) (i := m) hm
  simp [h2] at this
theorem firstR_from {order : List Nat} {there : List Bool} {i m : Nat} (h : order[i]? = some m) : (order.drop i).find? (fun m => there.getD m false) = if there.getD m false = true then some m else (order.drop (i + 1)).find? (fun m => there.getD m false) := by
  have lt := (List.getElem?_eq_some_iff.mp h).1
  have e := (List.getElem?_eq_some_iff.mp h).2
  rw [List.drop_eq_getElem_cons lt, e, List.find?_cons]
  cases there.getD m false <;> rfl
theorem ok_first {f : Addr} {fd : FuncData} (F : Fun K "first_there" "first_there" s_first_there f fd) : FnOk P w K mg base CX0 1 f fd ["order", "there", "spot"] (spFirst K) := by
  refine F.ok sc_first (fun vs H Q E h => ?_) (fun cdv A outer s H vs Q E hr h => ?_)
  · obtain ⟨ol, tl, order, there, spot, rfl, _⟩ := h
    rfl
  · obtain ⟨ol, tl, order, there, spot, rfl, h1, h2, hm, hl, hs, hx, k⟩ := h
    have nd := sc_first.nd
    refine ⟨_, pss_cons (ps_set (i := 3) nd rfl (.inl rfl) (pe_bm PySem.F.plainAttrs_list PySem.F.slot_list_index PySem.F.type_list_index mt_index (pv 0) (pa_cons (pv 2) pa_nil)))
      (pss_cons (ps_while PassesOwn.never (pt_not (pt_val (pe_ix ix_list (pv 1) (pe_ix ix_list (pv 0) (pv 3) (fun _ _ => rfl)) (fun _ _ => rfl)))) (pss_one (ps_aug (i := 3) nd rfl (.inl rfl) pe_int ip_add)))
      (pss_one (ps_ret (pe_ix ix_list (pv 0) (pv 3) (fun _ _ => rfl))))), ?_⟩
    obtain ⟨g1, g2, g3⟩ := idx_nat hs
    have fl : (nV order).all flatV = true := by
      unfold nV
      rw [List.all_map]
      exact List.all_eq_true.mpr fun x _ => rfl
    refine ⟨_, rfl, .inl ⟨rfl, _, h1⟩, _, rfl, ol, nV order, .int (spot : Nat), order.idxOf spot, .int (spot : Nat), rfl, rfl, h1, rfl, fl, nV_get g1, by simp [eqV], fun m z hm2 hz => ?_, ?_⟩
    · obtain ⟨q, hq, rfl⟩ := get_map hz
      have ne := g3 m q hm2 hq
      have : ¬ ((q : Int) = (spot : Int)) := by omega
      simp [eqV, this]
    obtain ⟨m0, hm0, ht0⟩ := hx
    have ex0 : ∃ m, (order.drop (order.idxOf spot)).find? (fun m => there.getD m false) = some m := by
      cases e : (order.drop (order.idxOf spot)).find? (fun m => there.getD m false) with
      | some m => exact ⟨m, rfl⟩
      | none => exact absurd ht0 (by have := List.find?_eq_none.mp e m0 hm0; simpa using this)
    have hf : firstR order there spot = ((order.drop (order.idxOf spot)).find? fun m => there.getD m false).getD 0 := rfl
    obtain ⟨mF, hF⟩ := ex0
    rw [hF] at hf
    refine while_by (fun σ H' => H' = H ∧ ∃ i : Nat, σ = [some (.ref ol), some (.ref tl), some (.int (spot : Nat)), some (.int (i : Nat))] ∧ i < order.length ∧ (order.drop i).find? (fun m => there.getD m false) = some mF) (fun σ _ => match σ with | [_, _, _, some (.int i)] => order.length - i.toNat | _ => 0) ⟨rfl, _, rfl, g2, hF⟩ ?_ ?_
    · rintro σ H' ⟨rfl, i, rfl, hi, hfi⟩
      obtain ⟨m, hmi⟩ := getP (xs := order) (i := i) hi
      have lt := hm m (List.mem_of_getElem? hmi)
      rw [firstR_from hmi] at hfi
      refine ⟨_, rfl, _, rfl, _, rfl, ol, _, _, _, rfl, rfl, h1, atI_nat (nV_get hmi), tl, _, _, _, rfl, rfl, h2, atI_nat (bV_get lt), there.getD m false, rfl, ?_⟩
      cases e : there.getD m false with
      | true =>
        rw [e] at hfi
        cases hfi
        refine iteF ?_
        refine ⟨_, rfl, _, rfl, ol, _, _, _, rfl, rfl, h1, atI_nat (nV_get hmi), ?_⟩
        rw [hf] at k
        exact k
      | false =>
        rw [e] at hfi
        refine iteT ⟨_, rfl, _, _, rfl, rfl, ⟨rfl, i + 1, rfl, ?_, hfi⟩, ?_⟩
        · by_cases c : i + 1 < order.length
          · exact c
          · have hfi : (order.drop (i + 1)).find? (fun m => there.getD m false) = some mF := hfi
            rw [List.drop_eq_nil_of_le (by omega)] at hfi
            cases hfi
        · show order.length - (((i : Nat) : Int) + 1).toNat < order.length - (((i : Nat) : Int)).toNat
          omega
    · intro σ H' Q Q' hQ h
      obtain ⟨v1, e1, v2, e2, v3, e3, p, xs, i, v, a1, a2, a3, a4, p', xs', i', v', b1, b2, b3, b4, c, hc, q⟩ := h
      exact ⟨v1, e1, v2, e2, v3, e3, p, xs, i, v, a1, a2, a3, a4, p', xs', i', v', b1, b2, b3, b4, c, hc, hQ _ _ q⟩
end
end TG


namespace TG
open PySem PySem.Spec PyProof.Rows L2 Gx
/-! ### a table as it stands -/
structure TSt where
  signs : List Str
  order : List Nat
  there : List Bool
  deeds : List Deed
  spots : List Nat
  undone : List (List Nat)
structure TA where
  dx : Addr
  st : Addr
  sg : Addr
  od : Addr
  th : Addr
  dl : Addr
  sp : Addr
  ud : Addr
  da : List Addr
  ua : List Addr
abbrev TA.fs (a : TA) : List (Str × V) := [("style", .ref a.st), ("signs", .ref a.sg), ("order", .ref a.od), ("there", .ref a.th), ("deeds", .ref a.dl), ("spots", .ref a.sp), ("undone", .ref a.ud)]
structure TabC (K : PySem.W.Frag) (B : Addr) : Prop where
  cls : Cls K B
  nStyle : NoAttr K B "style"
  nSigns : NoAttr K B "signs"
  nOrder : NoAttr K B "order"
  nThere : NoAttr K B "there"
  nDeeds : NoAttr K B "deeds"
  nSpots : NoAttr K B "spots"
  nUndone : NoAttr K B "undone"
structure TabD (B : Addr) (H : Hp) (tb : Addr) (a : TA) (S : TSt) : Prop where
  ob : H tb = some (.ins B a.dx a.fs)
  sg : H a.sg = some (.lst (sV S.signs))
  od : H a.od = some (.lst (nV S.order))
  th : H a.th = some (.lst (bV S.there))
  de : DeedsAt H a.dl a.da S.deeds
  sp : H a.sp = some (.lst (nV S.spots))
  ud : H a.ud = some (.lst (a.ua.map V.ref))
  ul : a.ua.length = S.undone.length
  un : ∀ (i : Nat) (u : Addr) (l : List Nat), a.ua[i]? = some u → S.undone[i]? = some l → H u = some (.lst (nV l))
  nd : (a.sp :: a.ud :: a.ua).Nodup
  dj : ∀ c ∈ a.sp :: a.ud :: a.ua, c ≠ a.sg ∧ c ≠ a.od ∧ c ≠ a.th ∧ c ≠ a.dl
/-- what a table may change -/
def ownT (tb : Addr) (a : TA) : Addr → Prop := fun c => c = tb ∨ c = a.sg ∨ c = a.od ∨ c = a.th ∨ c = a.dl ∨ c = a.sp ∨ c = a.ud ∨ c ∈ a.ua
section
variable {B tb : Addr} {H H' : Hp} {a : TA} {S : TSt} {A : Addr → Prop}
theorem TabD.mob (o : TabD B H tb a S) : Mob H (ownT tb a) := fun c hc => by
  rcases hc with e | e | e | e | e | e | e | e
  · exact .inr ⟨_, _, _, e ▸ o.ob⟩
  · exact .inl ⟨_, e ▸ o.sg⟩
  · exact .inl ⟨_, e ▸ o.od⟩
  · exact .inl ⟨_, e ▸ o.th⟩
  · exact .inl ⟨_, e ▸ o.de.lst⟩
  · exact .inl ⟨_, e ▸ o.sp⟩
  · exact .inl ⟨_, e ▸ o.ud⟩
  · obtain ⟨i, hi⟩ := List.mem_iff_getElem?.mp e
    obtain ⟨l, hl⟩ := getP (xs := S.undone) (i := i) (by rw [← o.ul]; exact (List.getElem?_eq_some_iff.mp hi).1)
    exact .inl ⟨_, o.un i c l hi hl⟩
theorem TabD.km (o : TabD B H tb a S) (x : KM A H H') (m : Mob H A) (n : ∀ c, ownT tb a c → ¬ A c) : TabD B H' tb a S := by
  have f : ∀ {c : Addr} {xs : List V}, ownT tb a c → H c = some (.lst xs) → H' c = some (.lst xs) := fun {c xs} hc h => x _ _ h (fun ps z => by cases z) (n c hc)
  exact ⟨x _ _ o.ob (fun ps z => by cases z) (n _ (.inl rfl)), f (.inr (.inl rfl)) o.sg, f (.inr (.inr (.inl rfl))) o.od, f (.inr (.inr (.inr (.inl rfl)))) o.th,
    ⟨f (.inr (.inr (.inr (.inr (.inl rfl))))) o.de.lst, o.de.len, fun i t d h1 h2 => tup_km x m (o.de.at_ i t d h1 h2)⟩, f (.inr (.inr (.inr (.inr (.inr (.inl rfl)))))) o.sp,
    f (.inr (.inr (.inr (.inr (.inr (.inr (.inl rfl))))))) o.ud, o.ul, fun i u l h1 h2 => f (.inr (.inr (.inr (.inr (.inr (.inr (.inr (List.mem_of_getElem? h1)))))))) (o.un i u l h1 h2), o.nd, o.dj⟩
theorem TabD.gw (o : TabD B H tb a S) (x : LamX.ExtN H H') : TabD B H' tb a S := o.km (A := fun _ => False) (KM.of x) (fun c h => h.elim) fun c _ h => h
theorem same_extN {H H' : Hp} (x : Same H H') : LamX.ExtN H H' := fun b o h _ => x b o h
theorem TabD.same (o : TabD B H tb a S) (x : Same H H') : TabD B H' tb a S := o.gw (same_extN x)
/-- one of its lists is written -/
theorem upd_own {c : Addr} {o : HO} (h : ownT tb a c) : KM (ownT tb a) H (upd H c o) := fun b u hb _ n => by rw [upd_ne (fun z => n (by rw [z]; exact h))]; exact hb
theorem upd_ownN {cs : List (Addr × Addr)} {c : Addr} {o : HO} (h : ownT tb a c) : KN cs (ownT tb a) H (upd H c o) := fun b u hb _ n => by rw [upd_ne (fun z => n (by rw [z]; exact h))]; exact hb
theorem TabD.hand (o : TabD B H tb a S) (l : List Nat) : TabD B (upd H a.sp (.lst (nV l))) tb a { S with spots := l } := by
  have d := o.dj a.sp (by simp)
  have nd := o.nd
  rw [List.nodup_cons, List.mem_cons, List.nodup_cons] at nd
  have f : ∀ {c : Addr} {u : HO}, c ≠ a.sp → H c = some u → upd H a.sp (.lst (nV l)) c = some u := fun n h => by rw [upd_ne n]; exact h
  have ft : ∀ {c : Addr} {us : List V}, H c = some (.tup us) → c ≠ a.sp := fun h e => by rw [e, o.sp] at h; cases h
  exact ⟨f (fun e => by have := o.ob; rw [e, o.sp] at this; cases this) o.ob, f d.1.symm o.sg, f d.2.1.symm o.od, f d.2.2.1.symm o.th,
    ⟨f d.2.2.2.symm o.de.lst, o.de.len, fun i t dd h1 h2 => f (ft (o.de.at_ i t dd h1 h2)) (o.de.at_ i t dd h1 h2)⟩, upd_same, f (fun e => nd.1 (.inl e.symm)) o.ud, o.ul,
    fun i u m h1 h2 => f (fun e => nd.1 (.inr (e ▸ List.mem_of_getElem? h1))) (o.un i u m h1 h2), o.nd, o.dj⟩
end
/-! ### what it is for -/
structure TOk (S : TSt) : Prop where
  one : ∀ z ∈ S.signs, z.length ≤ 1
  many : S.signs.length ≤ 9000
  ord : ∀ m ∈ S.order, m < S.signs.length
  ol : S.order.length ≤ 9000
  tl : S.there.length = S.signs.length
  dm : ∀ d ∈ S.deeds, d.2.2.1 < S.signs.length
  dn : S.deeds.length ≤ 9000
  sp : ∀ s ∈ S.spots, s ∈ thoseR S.order S.there
  hn : S.spots.length = S.undone.length
  h4 : S.spots.length ≤ 4
  un : ∀ l ∈ S.undone, l.length ≤ 9000 ∧ ∀ n ∈ l, n < S.deeds.length
abbrev hereR (S : TSt) : List Nat := thoseR S.order S.there
def nearR (S : TSt) (h : Nat) (by_ : Int) : Option Nat :=
  if 0 ≤ (((hereR S).idxOf (S.spots.getD h 0) : Nat) : Int) + by_ ∧ (((hereR S).idxOf (S.spots.getD h 0) : Nat) : Int) + by_ < ((hereR S).length : Nat) then (hereR S)[((((hereR S).idxOf (S.spots.getD h 0) : Nat) : Int) + by_).toNat]? else none
def goR1 (S : TSt) (h : Nat) (by_ : Int) : Bool × TSt := match nearR S h by_ with
  | none => (false, S)
  | some m => (true, { S with spots := S.spots.set h m })
def nonN : Option Nat → V
  | none => .non
  | some n => .int (n : Nat)
theorem hereR_len (S : TSt) : (hereR S).length ≤ S.order.length := List.length_filter_le _ _
theorem hereR_lt {S : TSt} (o : TOk S) : ∀ m ∈ hereR S, m < S.signs.length := fun m hm => o.ord m (List.mem_filter.mp hm).1
theorem nV_len (l : List Nat) : (nV l).length = l.length := by unfold nV; rw [List.length_map]
theorem getD_spot {S : TSt} {h : Nat} (hh : h < S.spots.length) : S.spots[h]? = some (S.spots.getD h 0) := by
  rw [List.getD_eq_getElem?_getD, List.getElem?_eq_getElem hh]
  rfl
theorem tabs_lst {cs : List (Addr × Addr)} {H : Hp} {a : Addr} {us : List V} {o : HO} (t : Tabs cs H) (h : H a = some (.lst us)) : Tabs cs (upd H a o) := fun p hp => by
  obtain ⟨ps, h1, h2⟩ := t p hp
  exact ⟨ps, by rw [upd_ne fun z => by rw [z, h] at h1; cases h1]; exact h1, h2⟩
theorem upd_old {H : Hp} {a : Addr} {u o : HO} (h : H a = some u) {b : Addr} (hb : upd H a o b = none) : H b = none := by
  by_cases z : b = a
  · rw [z, upd_same] at hb; cases hb
  · rw [upd_ne z] at hb; exact hb
theorem ints_flat (l : List Nat) : (nV l).all flatV = true := by
  unfold nV
  rw [List.all_map]
  exact List.all_eq_true.mpr fun x _ => rfl
theorem ints_no {l : List Nat} {p : Nat} (g : ∀ m z, m < l.idxOf p → l[m]? = some z → z ≠ p) (m : Nat) (z : V) (hm : m < l.idxOf p) (hz : (nV l)[m]? = some z) : eqV z (.int (p : Nat)) = false := by
  obtain ⟨q, hq, rfl⟩ := get_map hz
  have ne := g m q hm hq
  have : ¬ ((q : Int) = (p : Int)) := by omega
  simp [eqV, this]
section
variable {P : Program} {w : World} {K : PySem.W.Frag} {mg : Str → Option Value} {base : Heap} {cs : List (Addr × Addr)} {B : Addr}
def spWholeB : Sp := fun vs H Q _ => ∃ (i lo hi : Int), vs = [.int i, .int lo, .int hi] ∧ Q (.bl (decide (lo ≤ i ∧ i ≤ hi))) H
theorem ok_wholeB {f : Addr} {fd : FuncData} (T : Txt mg) (F : Fun K "is_whole" "is_whole" s_is_whole f fd) : FnOk P w K mg base CX0 1 f fd ["value", "low", "high"] spWholeB := by
  refine F.ok sc_whole (fun vs H Q E h => ?_) (fun cdv A outer s H vs Q E hr h => ?_)
  · obtain ⟨i, lo, hi, rfl, _⟩ := h
    rfl
  · obtain ⟨i, lo, hi, rfl, k⟩ := h
    refine ⟨_, pss_one (ps_ret (pe_and (pe_callB call_isi (by rfl) T.isin (by decide +kernel) (pa_cons (pv 0) (pa_cons (pe_bltn (v := .ty "int") (by rfl) T.int (by decide +kernel) rfl) pa_nil)))
      (pe_and (pe_not (pe_callB call_isi (by rfl) T.isin (by decide +kernel) (pa_cons (pv 0) (pa_cons (pe_bltn (v := .ty "bool") (by rfl) T.bool (by decide +kernel) rfl) pa_nil)))) (pe_one (pe_chain op_le op_le (pv 1) (pv 0) (pv 2)))))), ?_⟩
    refine ⟨_, rfl, _, _, _, _, true, rfl, .ty _, .base (.int i), kit_ty (by decide +kernel), true, rfl, iteT ⟨_, rfl, _, _, _, _, false, rfl, .ty _, .base (.int i), kit_ty (by decide +kernel), false, rfl, true, rfl, iteT ⟨_, rfl, _, rfl, lo, i, rfl, rfl, ?_⟩⟩⟩
    by_cases h1 : lo ≤ i
    · refine ⟨true, dT h1, iteT ⟨_, rfl, i, hi, rfl, rfl, ?_⟩⟩
      have e : decide (lo ≤ i ∧ i ≤ hi) = decide (i ≤ hi) := by simp [h1]
      rw [e] at k
      exact k
    · have e : decide (lo ≤ i ∧ i ≤ hi) = false := decide_eq_false fun z => h1 z.1
      rw [e] at k
      exact ⟨false, dF h1, iteF k⟩
/-! ### check_hand -/
def spHand (B : Addr) : Sp := fun vs H Q _ => ∃ (tb : Addr) (h : Nat) (a : TA) (S : TSt), vs = [.ref tb, .int (h : Nat)] ∧ TabD B H tb a S ∧ h < S.spots.length ∧ Q .non H
theorem sc_chand : FnScope ["self", "hand"] ["self", "hand"] (defScope (mth nTable 11)) := ⟨rfl, rfl, rfl, by decide +kernel, rfl, by decide +kernel, by decide +kernel⟩
theorem ok_chand {f g : Addr} {fd fdg : FuncData} (T : Txt mg) (X : TabC K B) (F : Fun K "check_hand" "Table.check_hand" (mth nTable 11) f fd)
    (W : FnOk P w K mg base CX0 1 g fdg ["value", "low", "high"] spWholeB) (kp : PySem.W.keepIn K (.ref g) = true) (bd : Binds K fdg ["value", "low", "high"] []) (mgg : mg "is_whole" = some (.ref g)) : FnOk P w K mg base CX0 2 f fd ["self", "hand"] (spHand B) := by
  refine F.ok sc_chand (fun vs H Q E h => ?_) (fun cdv A outer s H vs Q E hr h => ?_)
  · obtain ⟨tb, h, a, S, rfl, _⟩ := h
    rfl
  · obtain ⟨tb, h, a, S, rfl, hD, hh, k⟩ := h
    refine ⟨_, pss_one (ps_if (pt_not (pt_val (pe_call W hr (by rfl) mgg kp bd .nil pass0 (pa_cons (pv 1) (pa_cons pe_int (pa_cons (pe_op op_sub (pe_callB call_len_seq (by rfl) T.len PySem.boot_len (pa_cons (pe_fld (pv 0) rfl) pa_nil)) pe_int) pa_nil)))))) (pss_one ps_never) pss_nil), ?_⟩
    refine ⟨_, rfl, _, rfl, tb, B, a.dx, _, _, rfl, hD.ob, X.cls, X.nSpots, rfl, a.sp, _, rfl, .inl (SqL.of hD.sp), _, _, rfl, rfl, _, _, _, rfl, true, ?_, iteF k⟩
    rw [nV_len, decide_eq_true ⟨by omega, by omega⟩]
/-! ### present -/
def spPresent (B : Addr) : Sp := fun vs H Q _ => ∃ (tb : Addr) (a : TA) (S : TSt), vs = [.ref tb] ∧ TabD B H tb a S ∧ TOk S ∧ ∀ D, H D = none → Q (.ref D) (upd H D (.lst (nV (hereR S))))
theorem sc_present : FnScope ["self"] ["self"] (defScope (mth nTable 12)) := ⟨rfl, rfl, rfl, by decide +kernel, rfl, by decide +kernel, by decide +kernel⟩
theorem ok_present {f g : Addr} {fd fdg : FuncData} (X : TabC K B) (F : Fun K "present" "Table.present" (mth nTable 12) f fd)
    (G : FnOk P w K mg base CX0 1 g fdg ["order", "there"] (spThose K)) (kp : PySem.W.keepIn K (.ref g) = true) (bd : Binds K fdg ["order", "there"] []) (mgg : mg "those_there" = some (.ref g)) : FnOk P w K mg base CX0 2 f fd ["self"] (spPresent B) := by
  refine F.ok sc_present (fun vs H Q E h => ?_) (fun cdv A outer s H vs Q E hr h => ?_)
  · obtain ⟨tb, a, S, rfl, _⟩ := h
    rfl
  · obtain ⟨tb, a, S, rfl, hD, hO, k⟩ := h
    refine ⟨_, pss_one (ps_ret (pe_call G hr (by rfl) mgg kp bd .nil pass0 (pa_cons (pe_fld (pv 0) rfl) (pa_cons (pe_fld (pv 0) rfl) pa_nil)))), ?_⟩
    exact ⟨_, rfl, tb, B, a.dx, _, _, rfl, hD.ob, X.cls, X.nOrder, rfl, _, rfl, tb, B, a.dx, _, _, rfl, hD.ob, X.cls, X.nThere, rfl, a.od, a.th, S.order, S.there, rfl, SqL.of hD.od, SqL.of hD.th, fun m hm => by rw [hO.tl]; exact hO.ord m hm, by have := hO.ol; omega, k⟩
/-! ### near -/
def spNear (B : Addr) : Sp := fun vs H Q _ => ∃ (tb : Addr) (h : Nat) (by_ : Int) (a : TA) (S : TSt), vs = [.ref tb, .int (h : Nat), .int by_] ∧ TabD B H tb a S ∧ TOk S ∧ h < S.spots.length ∧ ∀ H', Same H H' → Q (nonN (nearR S h by_)) H'
abbrev nmNear : List Str := ["self", "hand", "by", "present", "number"]
theorem sc_near : FnScope nmNear ["self", "hand", "by"] (defScope (mth nTable 13)) := ⟨rfl, rfl, rfl, by decide +kernel, rfl, by decide +kernel, by decide +kernel⟩
theorem ok_near {f g : Addr} {fd fdg : FuncData} (T : Txt mg) (X : TabC K B) (F : Fun K "near" "Table.near" (mth nTable 13) f fd)
    (M : Meth K B "present" g) (G : FnOk P w K mg base CX0 2 g fdg ["self"] (spPresent B)) (bd : Binds K fdg ["self"] []) : FnOk P w K mg base CX0 3 f fd ["self", "hand", "by"] (spNear B) := by
  refine F.ok sc_near (fun vs H Q E h => ?_) (fun cdv A outer s H vs Q E hr h => ?_)
  · obtain ⟨tb, h, by_, a, S, rfl, _⟩ := h
    rfl
  · obtain ⟨tb, h, by_, a, S, rfl, hD, hO, hh, k⟩ := h
    have nd := sc_near.nd
    refine ⟨_, pss_cons (ps_set (i := 3) nd rfl (.inl rfl) (pe_meth0 (pv 0) X.cls M G hr bd .nil pass0))
      (pss_cons (ps_set (i := 4) nd rfl (.inl rfl) (pe_op op_add (pe_bm PySem.F.plainAttrs_list PySem.F.slot_list_index PySem.F.type_list_index mt_index (pv 3) (pa_cons (pe_ix ix_list (pe_fld (pv 0) rfl) (pv 1) (fun _ _ => rfl)) pa_nil)) (pv 2)))
      (pss_cons (ps_if (pt_chain op_le op_lt pe_int (pv 4) (pe_callB call_len_seq (by rfl) T.len PySem.boot_len (pa_cons (pv 3) pa_nil))) (pss_one (ps_ret (pe_ix ix_list (pv 3) (pv 4) (fun _ _ => rfl)))) pss_nil)
      (pss_one (ps_ret pe_non)))), ?_⟩
    refine ⟨_, rfl, tb, a.dx, _, rfl, hD.ob, rfl, tb, a, S, rfl, hD, hO, fun D nD => ?_⟩
    have x1 := same_new (o := .lst (nV (hereR S))) nD
    have hD1 := hD.same x1
    have h1 : upd H D (.lst (nV (hereR S))) D = some (.lst (nV (hereR S))) := upd_same
    generalize upd H D (.lst (nV (hereR S))) = H1 at x1 hD1 h1 ⊢
    have hs := getD_spot hh
    obtain ⟨g1, g2, g3⟩ := idx_nat (hO.sp _ (List.mem_of_getElem? hs))
    refine ⟨_, rfl, .inl ⟨rfl, _, SqL.of h1⟩, _, rfl, tb, B, a.dx, _, _, rfl, hD1.ob, X.cls, X.nSpots, rfl, _, rfl, a.sp, _, _, _, rfl, rfl, SqL.of hD1.sp, atI_nat (nV_get hs), D, nV (hereR S), .int (S.spots.getD h 0 : Nat), (hereR S).idxOf (S.spots.getD h 0), .int (S.spots.getD h 0 : Nat), rfl, rfl, SqL.of h1, rfl, ints_flat _, nV_get g1, by simp [eqV], ints_no g3, ?_⟩
    refine ⟨_, rfl, _, _, rfl, rfl, ?_⟩
    have eb : nearR S h by_ = if 0 ≤ (((hereR S).idxOf (S.spots.getD h 0) : Nat) : Int) + by_ ∧ (((hereR S).idxOf (S.spots.getD h 0) : Nat) : Int) + by_ < ((hereR S).length : Nat) then (hereR S)[((((hereR S).idxOf (S.spots.getD h 0) : Nat) : Int) + by_).toNat]? else none := rfl
    dsimp only
    generalize (((hereR S).idxOf (S.spots.getD h 0) : Nat) : Int) + by_ = n at eb ⊢
    refine ⟨_, rfl, 0, n, rfl, rfl, ?_⟩
    by_cases c1 : 0 ≤ n
    · refine ⟨true, dT c1, iteT ⟨_, rfl, D, _, rfl, .inl (SqL.of h1), n, _, rfl, rfl, ?_⟩⟩
      rw [nV_len]
      by_cases c2 : n < ((hereR S).length : Nat)
      · refine ⟨true, dT c2, iteT ?_⟩
        obtain ⟨m, rfl⟩ := Int.eq_ofNat_of_zero_le c1
        have hm : m < (hereR S).length := by omega
        rw [if_pos ⟨c1, c2⟩] at eb
        have em : ((m : Nat) : Int).toNat = m := rfl
        rw [em] at eb
        obtain ⟨q, hq⟩ := getP (xs := hereR S) (i := m) hm
        refine ⟨_, rfl, _, rfl, D, _, _, .int (q : Nat), rfl, rfl, SqL.of h1, atI_nat (nV_get hq), ?_⟩
        have := k _ x1
        rw [eb, hq] at this
        exact this
      · refine ⟨false, dF c2, iteF ?_⟩
        rw [if_neg fun z => c2 z.2] at eb
        have := k _ x1
        rw [eb] at this
        exact this
    · refine ⟨false, dF c1, iteF ?_⟩
      rw [if_neg fun z => c1 z.1] at eb
      have := k _ x1
      rw [eb] at this
      exact ⟨_, rfl, iteF this⟩
/-! ### go, right -/
/-- what a table does, if it doesn't fail -/
def Went (cs : List (Addr × Addr)) (B : Addr) (H : Hp) (tb : Addr) (a : TA) (S' : TSt) (Q : Hp → Prop) : Prop :=
  ∀ (a' : TA) (H' : Hp), a'.st = a.st → KN cs (ownT tb a) H H' → (∀ c, ownT tb a' c → ownT tb a c ∨ H c = none) → Tabs cs H' → (∀ b, H' b = none → H b = none) → TabD B H' tb a' S' → Q H'
def spGo (cs : List (Addr × Addr)) (B : Addr) : Sp := fun vs H Q _ => ∃ (tb : Addr) (h : Nat) (by_ : Int) (a : TA) (S : TSt), vs = [.ref tb, .int (h : Nat), .int by_] ∧ Tabs cs H ∧ TabD B H tb a S ∧ TOk S ∧ h < S.spots.length ∧ Went cs B H tb a (goR1 S h by_).2 fun H' => Q (.bl (goR1 S h by_).1) H'
abbrev nmGo : List Str := ["self", "hand", "by", "mark"]
theorem sc_go : FnScope nmGo ["self", "hand", "by"] (defScope (mth nTable 14)) := ⟨rfl, rfl, rfl, by decide +kernel, rfl, by decide +kernel, by decide +kernel⟩
theorem ok_go {f g : Addr} {fd fdg : FuncData} (X : TabC K B) (F : Fun K "go" "Table.go" (mth nTable 14) f fd)
    (M : Meth K B "near" g) (G : FnOk P w K mg base CX0 3 g fdg ["self", "hand", "by"] (spNear B)) (bd : Binds K fdg ["self", "hand", "by"] []) : FnOk P w K mg base CX0 4 f fd ["self", "hand", "by"] (spGo cs B) := by
  refine F.ok sc_go (fun vs H Q E h => ?_) (fun cdv A outer s H vs Q E hr h => ?_)
  · obtain ⟨tb, h, by_, a, S, rfl, _⟩ := h
    rfl
  · obtain ⟨tb, h, by_, a, S, rfl, hT, hD, hO, hh, k⟩ := h
    have nd := sc_go.nd
    refine ⟨_, pss_cons (ps_set (i := 3) nd rfl (.inl rfl) (pe_meth (pv 0) X.cls M G hr bd .nil pass0 (pa_cons (pv 1) (pa_cons (pv 2) pa_nil))))
      (pss_cons (ps_if (pt_cmpR op_isN (pv 3) pe_non (nomark _)) (pss_one (ps_ret pe_bl)) pss_nil)
      (pss_cons (ps_asg (pv 3) (pg_sub (pe_fld (pv 0) rfl) (pv 1) set_list)) (pss_one (ps_ret pe_bl)))), ?_⟩
    refine ⟨_, rfl, tb, a.dx, _, rfl, hD.ob, rfl, _, rfl, _, rfl, tb, h, by_, a, S, rfl, hD, hO, hh, fun H1 x1 => ?_⟩
    have hD1 := hD.same x1
    have t1 := (same_ex x1 hT).tab
    unfold goR1 at k
    cases e : nearR S h by_ with
    | none =>
      rw [e] at k
      exact ⟨_, rfl, rfl, true, rfl, iteT (k a H1 rfl (KN.same x1) (fun c hc => .inl hc) t1 (fun b hb => same_old x1 hb) hD1)⟩
    | some m =>
      rw [e] at k
      refine ⟨_, rfl, rfl, false, rfl, iteF ⟨_, rfl, _, rfl, tb, B, a.dx, _, _, rfl, hD1.ob, X.cls, X.nSpots, rfl, _, rfl, a.sp, _, _, h, rfl, rfl, hD1.sp, ixN_nat (by rw [nV_len]; exact hh), ?_⟩⟩
      have es : (nV S.spots).set h (nonN (some m)) = nV (S.spots.set h m) := by unfold nV; rw [List.map_set]; rfl
      dsimp only
      rw [es]
      exact k a _ rfl ((KN.same x1).tr (upd_ownN (.inr (.inr (.inr (.inr (.inr (.inl rfl)))))))) (fun c hc => .inl hc) (tabs_lst t1 hD1.sp) (fun b hb => same_old x1 (upd_old hD1.sp hb)) (hD1.hand _)
def spTRight (cs : List (Addr × Addr)) (B : Addr) : Sp := fun vs H Q _ => ∃ (tb : Addr) (h : Nat) (a : TA) (S : TSt), vs = [.ref tb, .int (h : Nat)] ∧ Tabs cs H ∧ TabD B H tb a S ∧ TOk S ∧ h < S.spots.length ∧ Went cs B H tb a (goR1 S h 1).2 fun H' => Q (.bl (goR1 S h 1).1) H'
theorem sc_tright : FnScope ["self", "hand"] ["self", "hand"] (defScope (mth nTable 6)) := ⟨rfl, rfl, rfl, by decide +kernel, rfl, by decide +kernel, by decide +kernel⟩
theorem ok_tright {f g1 g2 : Addr} {fd fd1 fd2 : FuncData} (X : TabC K B) (F : Fun K "right" "Table.right" (mth nTable 6) f fd)
    (M1 : Meth K B "check_hand" g1) (G1 : FnOk P w K mg base CX0 2 g1 fd1 ["self", "hand"] (spHand B)) (b1 : Binds K fd1 ["self", "hand"] [])
    (M2 : Meth K B "go" g2) (G2 : FnOk P w K mg base CX0 4 g2 fd2 ["self", "hand", "by"] (spGo cs B)) (b2 : Binds K fd2 ["self", "hand", "by"] []) : FnOk P w K mg base CX0 5 f fd ["self", "hand"] (spTRight cs B) := by
  refine F.ok sc_tright (fun vs H Q E h => ?_) (fun cdv A outer s H vs Q E hr h => ?_)
  · obtain ⟨tb, h, a, S, rfl, _⟩ := h
    rfl
  · obtain ⟨tb, h, a, S, rfl, hT, hD, hO, hh, k⟩ := h
    have r2 : Room 2 _ := hr.mono (by decide)
    refine ⟨_, pss_cons (ps_expr (pe_meth (pv 0) X.cls M1 G1 r2 b1 .nil pass0 (pa_cons (pv 1) pa_nil))) (pss_one (ps_ret (pe_meth (pv 0) X.cls M2 G2 hr b2 .nil pass0 (pa_cons (pv 1) (pa_cons pe_int pa_nil))))), ?_⟩
    exact ⟨_, rfl, tb, a.dx, _, rfl, hD.ob, rfl, _, rfl, tb, h, a, S, rfl, hD, hh, _, rfl, tb, a.dx, _, rfl, hD.ob, rfl, _, rfl, tb, h, 1, a, S, rfl, hT, hD, hO, hh, k⟩
end
end TG


namespace TG
open PySem PySem.Spec PyProof.Rows L2 Gx
/-! ### new tuples in a new list -/
structure TupL (H0 : Hp) (D : Addr) (l : List (List V)) (H : Hp) : Prop where
  sm : Same H0 H
  nD : H0 D = none
  ts : ∃ ts : List Addr, H D = some (.lst (ts.map V.ref)) ∧ ts.length = l.length ∧ ∀ (j : Nat) (t : Addr) (v : List V), ts[j]? = some t → l[j]? = some v → H t = some (.tup v)
theorem TupL.start {H0 : Hp} {D : Addr} (n : H0 D = none) : TupL H0 D [] (upd H0 D (.lst [])) := ⟨same_new n, n, [], upd_same, rfl, fun j t v h => by cases h⟩
theorem TupL.grow {H0 H H' : Hp} {D : Addr} {l : List (List V)} (o : TupL H0 D l H) (x : Same H H') : TupL H0 D l H' := by
  obtain ⟨ts, h1, h2, h3⟩ := o.ts
  exact ⟨fun b u e => x b u (o.sm b u e), o.nD, ts, x _ _ h1, h2, fun j t v e1 e2 => x _ _ (h3 j t v e1 e2)⟩
theorem TupL.more {H0 H : Hp} {D t : Addr} {l : List (List V)} {v : List V} (o : TupL H0 D l H) (ht : H t = some (.tup v)) : ∃ acc, H D = some (.lst acc) ∧ acc.length = l.length ∧ TupL H0 D (l ++ [v]) (upd H D (.lst (acc ++ [.ref t]))) := by
  obtain ⟨ts, h1, h2, h3⟩ := o.ts
  have tD : ∀ {t : Addr} {v : List V}, H t = some (.tup v) → t ≠ D := fun {t v} h z => by rw [z, h1] at h; cases h
  refine ⟨_, h1, by rw [List.length_map, h2], fun b u e => by rw [upd_ne (ne_of_none e o.nD)]; exact o.sm b u e, o.nD, ts ++ [t], by rw [upd_same]; simp, by rw [List.length_append, List.length_append, h2]; rfl, fun j s u e1 e2 => ?_⟩
  by_cases hj : j < ts.length
  · rw [List.getElem?_append_left hj] at e1
    rw [List.getElem?_append_left (by rw [← h2]; exact hj)] at e2
    have := h3 j s u e1 e2
    rw [upd_ne (tD this)]
    exact this
  · have hl := (List.getElem?_eq_some_iff.mp e1).1
    rw [List.length_append, List.length_singleton] at hl
    have ej : j = ts.length := by omega
    subst ej
    rw [List.getElem?_append_right (Nat.le_refl _), Nat.sub_self] at e1
    rw [h2, List.getElem?_append_right (Nat.le_refl _), Nat.sub_self] at e2
    cases e1
    cases e2
    rw [upd_ne (tD ht)]
    exact ht
/-! ### places -/
theorem cut_toV {xs : List V} {k : Nat} : cutV xs none (some (k : Int)) = xs.take k := by
  unfold cutV
  rw [HT.sIx_nat, HT.sIx_none, List.drop_zero, Nat.sub_zero]
  by_cases h : k ≤ xs.length
  · rw [Nat.min_eq_left h]
  · rw [Nat.min_eq_right (by omega), List.take_of_length_le (Nat.le_refl _), List.take_of_length_le (show xs.length ≤ k by omega)]
/-- what a table tells of its deeds -/
def toldV (d : Deed) : List V := [.int (d.1 : Nat), .str d.2.1, .bl d.2.2.2]
/-- where a hand stands -/
def atR (S : TSt) (h : Nat) : Nat × Nat × Nat :=
  let R := rowsT (textR S.signs ((hereR S).take ((hereR S).idxOf (S.spots.getD h 0))))
  (R.length - 1, (R.getLast?.getD []).length - 1, ((R.getLast?.getD []).getLast?.getD "").length)
theorem textR_len {signs : List Str} {marks : List Nat} (h1 : ∀ z ∈ signs, z.length ≤ 1) : (textR signs marks).length ≤ marks.length := by
  have e : (textR signs marks).length = ((marks.map fun m => signs.getD m "").map (·.length)).sum := by
    unfold textR
    rw [len_cl, cl_joinL]
    have : ∀ ys : List Str, (TL.joinL (cl "") (ys.map cl)).length = (ys.map (·.length)).sum := by
      intro ys
      induction ys with
      | nil => rfl
      | cons y ys ih =>
        have e0 : cl ("" : Str) = [] := by decide +kernel
        rw [e0] at ih ⊢
        cases ys with
        | nil => simp [TL.joinL, len_cl]
        | cons z zs =>
          have e1 : ((y :: z :: zs).map (·.length)).sum = y.length + ((z :: zs).map (·.length)).sum := by rw [List.map_cons, List.sum_cons]
          rw [e1, ← ih]
          show ((cl y) ++ ([] ++ TL.joinL [] ((z :: zs).map cl))).length = _
          rw [List.nil_append, List.length_append, len_cl]
    exact this _
  rw [e]
  have hs := sum_ones (marks.map fun m => signs.getD m "") fun y hy => by
    obtain ⟨m, hmm, rfl⟩ := List.mem_map.mp hy
    rw [List.getD_eq_getElem?_getD]
    cases q : signs[m]? with
    | none => exact Nat.zero_le _
    | some z => exact h1 z (List.mem_of_getElem? q)
  rw [List.length_map] at hs
  exact hs
theorem rowsAt_last {ps : List Addr} {rows : List (List Str)} {H : Hp} (r : RowsAt ps rows H) (h : 1 ≤ rows.length) : ∃ q, atI (ps.map V.ref) (-1) = some (.ref q) ∧ H q = some (.tup (sV (rows.getLast?.getD []))) := by
  have hl := r.len
  have l1 : ps.length - 1 < ps.length := by omega
  refine ⟨ps[ps.length - 1], ?_, ?_⟩
  · have e : ixN (ps.map V.ref).length (-1) = some (ps.length - 1) := by
      unfold ixN
      rw [List.length_map]
      simp
      omega
    unfold atI
    rw [e]
    show (ps.map V.ref)[ps.length - 1]? = _
    rw [List.getElem?_map, List.getElem?_eq_getElem l1]
    rfl
  · refine r.row (ps.length - 1) _ _ (List.getElem?_eq_getElem l1) ?_
    rw [List.getLast?_eq_getElem?, hl, List.getElem?_eq_getElem (by omega)]
    rfl
theorem atZ_lastT {xs : List Str} (h : 1 ≤ xs.length) : atI (sV xs) (-1) = some (.str (xs.getLast?.getD "")) := by
  have e : ixN (sV xs).length (-1) = some (xs.length - 1) := by
    unfold ixN sV
    rw [List.length_map]
    simp
    omega
  unfold atI
  rw [e]
  show (sV xs)[xs.length - 1]? = _
  unfold sV
  rw [List.getElem?_map, List.getLast?_eq_getElem?, List.getElem?_eq_getElem (by omega)]
  rfl
section
variable {P : Program} {w : World} {K : PySem.W.Frag} {mg : Str → Option Value} {base : Heap} {cs : List (Addr × Addr)} {B : Addr}
/-! ### page -/
def spTPage (cs : List (Addr × Addr)) (B : Addr) : Sp := fun vs H Q _ => ∃ (tb : Addr) (a : TA) (S : TSt), vs = [.ref tb] ∧ Tabs cs H ∧ TabD B H tb a S ∧ TOk S ∧
  ∀ (r : Addr) (ps : List Addr) (H' : Hp), Ex cs H H' → H r = none → H' r = some (.lst (ps.map V.ref)) → RowsAt ps (rowsT (textR S.signs (hereR S))) H' → Q (.ref r) H'
theorem sc_tpage : FnScope ["self"] ["self"] (defScope (mth nTable 8)) := ⟨rfl, rfl, rfl, by decide +kernel, rfl, by decide +kernel, by decide +kernel⟩
theorem ok_tpage {f g1 g2 g3 : Addr} {fd fd1 fd2 fd3 : FuncData} (X : TabC K B) (F : Fun K "page" "Table.page" (mth nTable 8) f fd)
    (M1 : Meth K B "present" g1) (G1 : FnOk P w K mg base CX0 2 g1 fd1 ["self"] (spPresent B)) (b1 : Binds K fd1 ["self"] [])
    (G2 : FnOk P w K mg base CX0 1 g2 fd2 ["signs", "marks"] (spTextOf K)) (k2 : PySem.W.keepIn K (.ref g2) = true) (b2 : Binds K fd2 ["signs", "marks"] []) (m2 : mg "text_of" = some (.ref g2))
    (G3 : FnOk P w K mg base CX0 1 g3 fd3 ["text"] (spRowsOf cs)) (k3 : PySem.W.keepIn K (.ref g3) = true) (b3 : Binds K fd3 ["text"] []) (m3 : mg "rows_of" = some (.ref g3)) : FnOk P w K mg base CX0 3 f fd ["self"] (spTPage cs B) := by
  refine F.ok sc_tpage (fun vs H Q E h => ?_) (fun cdv A outer s H vs Q E hr h => ?_)
  · obtain ⟨tb, a, S, rfl, _⟩ := h
    rfl
  · obtain ⟨tb, a, S, rfl, hT, hD, hO, k⟩ := h
    have r1 : Room 1 _ := hr.mono (by decide)
    refine ⟨_, pss_one (ps_ret (pe_call G3 r1 (by rfl) m3 k3 b3 .nil pass0 (pa_cons (pe_call G2 r1 (by rfl) m2 k2 b2 .nil pass0 (pa_cons (pe_fld (pv 0) rfl) (pa_cons (pe_meth0 (pv 0) X.cls M1 G1 hr b1 .nil pass0) pa_nil))) pa_nil))), ?_⟩
    refine ⟨_, rfl, tb, B, a.dx, _, _, rfl, hD.ob, X.cls, X.nSigns, rfl, _, rfl, tb, a.dx, _, rfl, hD.ob, rfl, tb, a, S, rfl, hD, hO, fun D nD => ?_⟩
    have x1 := same_new (o := .lst (nV (hereR S))) nD
    have hl := hereR_len S
    have ho := hO.ol
    refine ⟨a.sg, D, S.signs, hereR S, rfl, SqL.of (x1 _ _ hD.sg), SqL.of upd_same, hereR_lt hO, by omega, hO.one, fun H2 x2 => ?_⟩
    have e2 := same_ex (same_trans x1 x2) hT
    have tl := textR_len (marks := hereR S) hO.one
    exact ⟨_, rfl, e2.tab, by omega, fun r ps H3 x3 nr hr3 hps => k r ps H3 (e2.trans x3) (e2.old _ nr) hr3 hps⟩
/-! ### at -/
def spTAt (cs : List (Addr × Addr)) (B : Addr) : Sp := fun vs H Q _ => ∃ (tb : Addr) (h : Nat) (a : TA) (S : TSt), vs = [.ref tb, .int (h : Nat)] ∧ Tabs cs H ∧ TabD B H tb a S ∧ TOk S ∧ h < S.spots.length ∧
  ∀ (t : Addr) (H' : Hp), Ex cs H H' → H' t = some (.tup [.int ((atR S h).1 : Nat), .int ((atR S h).2.1 : Nat), .int ((atR S h).2.2 : Nat)]) → Q (.ref t) H'
abbrev nmAt : List Str := ["self", "hand", "present", "rows"]
theorem sc_tat : FnScope nmAt ["self", "hand"] (defScope (mth nTable 7)) := ⟨rfl, rfl, rfl, by decide +kernel, rfl, by decide +kernel, by decide +kernel⟩
theorem rowsT_1 (z : Str) : 1 ≤ (rowsT z).length ∧ ∀ r ∈ rowsT z, 1 ≤ r.length := by
  have ne : ∀ (z y : Str), cl y ≠ [] → Builtin.Str.strKind y = 1 → 1 ≤ (Txt.split z y).length := fun z y h0 h1 => by
    have e := split_clL z y h0 h1
    have : (TL.spl (cl y) 0 [] (cl z)).length = (Txt.split z y).length := by rw [← e, List.length_map]
    rw [← this]
    have g : ∀ (l acc : List Nat) (k : Nat), 1 ≤ (TL.spl (cl y) k acc l).length := by
      intro l
      induction l with
      | nil => intro acc k; cases k <;> simp [TL.spl]
      | cons c r ih =>
        intro acc k
        cases k with
        | zero =>
          unfold TL.spl
          split
          · simp
          · exact ih _ _
        | succ k => unfold TL.spl; exact ih _ _
    exact g _ _ _
  refine ⟨?_, fun r hr => ?_⟩
  · unfold rowsT
    rw [List.length_map]
    exact ne z lineS (by rw [cl_lineS]; decide) kind_line
  · unfold rowsT at hr
    obtain ⟨l, _, rfl⟩ := List.mem_map.mp hr
    exact ne l tabS (by rw [cl_tabS]; decide) kind_tab
theorem rowsT_piece {z : Str} {r : List Str} {x : Str} (hr : r ∈ rowsT z) (hx : x ∈ r) : x.length ≤ z.length := by
  unfold rowsT at hr
  obtain ⟨l, hl, rfl⟩ := List.mem_map.mp hr
  have h1 := split_pieceL (by rw [cl_lineS]; decide) kind_line hl
  have h2 := split_pieceL (by rw [cl_tabS]; decide) kind_tab hx
  omega
theorem ok_tat {f g0 g1 g2 g3 : Addr} {fd fd0 fd1 fd2 fd3 : FuncData} (T : Txt mg) (X : TabC K B) (F : Fun K "at" "Table.at" (mth nTable 7) f fd)
    (M0 : Meth K B "check_hand" g0) (G0 : FnOk P w K mg base CX0 2 g0 fd0 ["self", "hand"] (spHand B)) (b0 : Binds K fd0 ["self", "hand"] [])
    (M1 : Meth K B "present" g1) (G1 : FnOk P w K mg base CX0 2 g1 fd1 ["self"] (spPresent B)) (b1 : Binds K fd1 ["self"] [])
    (G2 : FnOk P w K mg base CX0 1 g2 fd2 ["signs", "marks"] (spTextOf K)) (k2 : PySem.W.keepIn K (.ref g2) = true) (b2 : Binds K fd2 ["signs", "marks"] []) (m2 : mg "text_of" = some (.ref g2))
    (G3 : FnOk P w K mg base CX0 1 g3 fd3 ["text"] (spRowsOf cs)) (k3 : PySem.W.keepIn K (.ref g3) = true) (b3 : Binds K fd3 ["text"] []) (m3 : mg "rows_of" = some (.ref g3)) : FnOk P w K mg base CX0 3 f fd ["self", "hand"] (spTAt cs B) := by
  refine F.ok sc_tat (fun vs H Q E h => ?_) (fun cdv A outer s H vs Q E hr h => ?_)
  · obtain ⟨tb, h, a, S, rfl, _⟩ := h
    rfl
  · obtain ⟨tb, h, a, S, rfl, hT, hD, hO, hh, k⟩ := h
    have nd := sc_tat.nd
    have r1 : Room 1 _ := hr.mono (by decide)
    refine ⟨_, pss_cons (ps_expr (pe_meth (pv 0) X.cls M0 G0 hr b0 .nil pass0 (pa_cons (pv 1) pa_nil)))
      (pss_cons (ps_set (i := 2) nd rfl (.inl rfl) (pe_meth0 (pv 0) X.cls M1 G1 hr b1 .nil pass0))
      (pss_cons (ps_set (i := 3) nd rfl (.inl rfl) (pe_call G3 r1 (by rfl) m3 k3 b3 .nil pass0 (pa_cons (pe_call G2 r1 (by rfl) m2 k2 b2 .nil pass0 (pa_cons (pe_fld (pv 0) rfl)
        (pa_cons (pe_slice sl_list (pv 2) po_none (po_some (pe_bm PySem.F.plainAttrs_list PySem.F.slot_list_index PySem.F.type_list_index mt_index (pv 2) (pa_cons (pe_ix ix_list (pe_fld (pv 0) rfl) (pv 1) (fun _ _ => rfl)) pa_nil)))) pa_nil))) pa_nil)))
      (pss_one (ps_ret (pe_tup (pa_cons (pe_op op_sub (pe_callB call_len_seq (by rfl) T.len PySem.boot_len (pa_cons (pv 3) pa_nil)) pe_int)
        (pa_cons (pe_op op_sub (pe_callB call_len_seq (by rfl) T.len PySem.boot_len (pa_cons (pe_ix ix_list (pv 3) (pe_un un_neg pe_int) (fun _ _ => rfl)) pa_nil)) pe_int)
        (pa_cons (pe_callB call_len_str (by rfl) T.len PySem.boot_len (pa_cons (pe_ix ix_tup (pe_ix ix_list (pv 3) (pe_un un_neg pe_int) (fun _ _ => rfl)) (pe_un un_neg pe_int) (fun _ _ => rfl)) pa_nil)) pa_nil)))))))), ?_⟩
    refine ⟨_, rfl, tb, a.dx, _, rfl, hD.ob, rfl, _, rfl, tb, h, a, S, rfl, hD, hh, _, rfl, tb, a.dx, _, rfl, hD.ob, rfl, tb, a, S, rfl, hD, hO, fun D nD => ?_⟩
    have x1 := same_new (o := .lst (nV (hereR S))) nD
    have hD1 := hD.same x1
    have h1 : upd H D (.lst (nV (hereR S))) D = some (.lst (nV (hereR S))) := upd_same
    generalize upd H D (.lst (nV (hereR S))) = H1 at x1 hD1 h1 ⊢
    have hl := hereR_len S
    have ho := hO.ol
    have hs := getD_spot hh
    obtain ⟨g1', g2', g3'⟩ := idx_nat (hO.sp _ (List.mem_of_getElem? hs))
    refine ⟨_, rfl, tb, B, a.dx, _, _, rfl, hD1.ob, X.cls, X.nSigns, rfl, _, rfl, _, rfl, .inl ⟨rfl, _, SqL.of h1⟩, _, rfl, tb, B, a.dx, _, _, rfl, hD1.ob, X.cls, X.nSpots, rfl, _, rfl, a.sp, _, _, _, rfl, rfl, SqL.of hD1.sp, atI_nat (nV_get hs), D, nV (hereR S), .int (S.spots.getD h 0 : Nat), (hereR S).idxOf (S.spots.getD h 0), .int (S.spots.getD h 0 : Nat), rfl, rfl, SqL.of h1, rfl, ints_flat _, nV_get g1', by simp [eqV], ints_no g3', ?_⟩
    refine ⟨_, rfl, D, _, rfl, SqL.of h1, fun p np => ?_⟩
    rw [cut_toV]
    have e1 : (nV (hereR S)).take ((hereR S).idxOf (S.spots.getD h 0)) = nV ((hereR S).take ((hereR S).idxOf (S.spots.getD h 0))) := by unfold nV; rw [List.map_take]
    rw [e1]
    have hR : atR S h = ((rowsT (textR S.signs ((hereR S).take ((hereR S).idxOf (S.spots.getD h 0))))).length - 1, ((rowsT (textR S.signs ((hereR S).take ((hereR S).idxOf (S.spots.getD h 0))))).getLast?.getD []).length - 1, (((rowsT (textR S.signs ((hereR S).take ((hereR S).idxOf (S.spots.getD h 0))))).getLast?.getD []).getLast?.getD "").length) := rfl
    have lm : ∀ m ∈ (hereR S).take ((hereR S).idxOf (S.spots.getD h 0)), m < S.signs.length := fun m hm => hereR_lt hO m (List.mem_of_mem_take hm)
    have ll : ((hereR S).take ((hereR S).idxOf (S.spots.getD h 0))).length ≤ 9000 := by rw [List.length_take]; omega
    generalize (hereR S).take ((hereR S).idxOf (S.spots.getD h 0)) = ms at hR lm ll ⊢
    have x2 := same_new (o := .lst (nV ms)) np
    refine ⟨a.sg, p, S.signs, ms, rfl, SqL.of (x2 _ _ hD1.sg), SqL.of upd_same, lm, by omega, hO.one, fun H3 x3 => ?_⟩
    have e3 := same_ex (same_trans x1 (same_trans x2 x3)) hT
    have tl := textR_len (marks := ms) hO.one
    refine ⟨_, rfl, e3.tab, by omega, fun r ps H4 x4 nr hr4 hps => ?_⟩
    obtain ⟨r1', r2'⟩ := rowsT_1 (textR S.signs ms)
    obtain ⟨q, hq1, hq2⟩ := rowsAt_last hps r1'
    have hlast : (rowsT (textR S.signs ms)).getLast?.getD [] ∈ rowsT (textR S.signs ms) := by
      cases e : (rowsT (textR S.signs ms)).getLast? with
      | none => rw [List.getLast?_eq_none_iff.mp e] at r1'; simp at r1'
      | some x => exact List.mem_of_getLast? e
    have r3' := r2' _ hlast
    have r4' : ((((rowsT (textR S.signs ms)).getLast?.getD [])).getLast?.getD "").length ≤ 9000 := by
      cases e : ((rowsT (textR S.signs ms)).getLast?.getD []).getLast? with
      | none => exact Nat.zero_le _
      | some x =>
        have := rowsT_piece hlast (List.mem_of_getLast? e)
        show x.length ≤ 9000
        omega
    have hk := k
    rw [hR] at hk
    generalize rowsT (textR S.signs ms) = R at hps r1' hk hq2 r3' r4'
    have szl : (9000 : Nat) < sizeLine := by decide
    have pl := hps.len
    refine ⟨_, rfl, r, _, rfl, .inl (SqL.of hr4), _, _, rfl, rfl, _, rfl, 1, rfl, r, _, _, _, rfl, rfl, SqL.of hr4, hq1, q, _, rfl, .inr (SqT.of hq2), _, _, rfl, rfl, _, rfl, 1, rfl, r, _, _, _, rfl, rfl, SqL.of hr4, hq1, 1, rfl, q, _, _, _, rfl, rfl, SqT.of hq2, atZ_lastT r3', _, rfl, ?_, by show 3 ≤ sizeLine; decide, fun t nt => ?_⟩
    · omega
    · refine hk t _ (e3.trans (x4.trans (Ex.laid x4.tab nt))) ?_
      rw [upd_same]
      have f1 : (((ps.map V.ref).length : Nat) : Int) - 1 = ((R.length - 1 : Nat) : Int) := by rw [List.length_map]; omega
      have f2 : (((sV (R.getLast?.getD [])).length : Nat) : Int) - 1 = (((R.getLast?.getD []).length - 1 : Nat) : Int) := by unfold sV; rw [List.length_map]; omega
      dsimp only
      rw [f1, f2]
/-! ### told -/
def spTTold (B : Addr) : Sp := fun vs H Q _ => ∃ (tb : Addr) (a : TA) (S : TSt), vs = [.ref tb] ∧ TabD B H tb a S ∧ TOk S ∧ ∀ (D : Addr) (H' : Hp), TupL H D (S.deeds.map toldV) H' → Q (.ref D) H'
abbrev nmTold2 : List Str := ["self", "hand", "sign", "mark", "stands"]
theorem sc_ttold : FnScope nmTold2 ["self"] (defScope (mth nTable 10)) := ⟨rfl, rfl, rfl, by decide +kernel, rfl, by decide +kernel, by decide +kernel⟩
theorem ok_ttold {f : Addr} {fd : FuncData} (X : TabC K B) (F : Fun K "told" "Table.told" (mth nTable 10) f fd) : FnOk P w K mg base CX0 1 f fd ["self"] (spTTold B) := by
  refine F.ok sc_ttold (fun vs H Q E h => ?_) (fun cdv A outer s H vs Q E hr h => ?_)
  · obtain ⟨tb, a, S, rfl, _⟩ := h
    rfl
  · obtain ⟨tb, a, S, rfl, hD, hO, k⟩ := h
    have nd := sc_ttold.nd
    have szl : (9000 : Nat) < sizeLine := by decide
    refine ⟨_, pss_one (ps_ret (pe_lc (own := [("hand", 1), ("sign", 2), ("mark", 3), ("stands", 4)]) (g := gTup K 4 (gCons (gName 1) (gCons (gName 2) (gCons (gName 3) (gCons (gName 4) gNil))))) (tt := tYes) rfl nd (pi_list (pe_fld (pv 0) rfl)) (blkOk_by (own := [("hand", 1), ("sign", 2), ("mark", 3), ("stands", 4)]) (N := nmTold2) (sc := defScope (mth nTable 10)) (by decide +kernel))
      (fun _ _ _ _ _ => pg_tup rfl (pgs_cons (pg_name (i := 1) nd rfl (.inl rfl) (.inr rfl)) (pgs_cons (pg_name (i := 2) nd rfl (.inl rfl) (.inr rfl)) (pgs_cons (pg_name (i := 3) nd rfl (.inl rfl) (.inr rfl)) (pgs_cons (pg_name (i := 4) nd rfl (.inl rfl) (.inr rfl)) pgs_nil))))) (fun _ _ _ _ _ => pts_nil)
      (fun _ _ _ _ _ => pe_tup (pa_cons (pv 1) (pa_cons (pv 2) (pa_cons (pv 4) pa_nil)))))), ?_⟩
    refine ⟨_, rfl, tb, B, a.dx, _, _, rfl, hD.ob, X.cls, X.nDeeds, rfl, a.dl, rfl, ⟨_, SqL.of hD.de.lst⟩, fun D nD => lc_list (xs := a.da.map V.ref) (fun i H' => TupL H D ((S.deeds.take i).map toldV) H') (TupL.start nD) (fun i H' _ o => SqL.of (o.sm _ _ hD.de.lst)) ?_ ?_⟩
    · rintro i x H1 hx o
      obtain ⟨t, ht, rfl⟩ := get_map hx
      obtain ⟨d, hd⟩ := getP (xs := S.deeds) (i := i) (by rw [← hD.de.len]; exact (List.getElem?_eq_some_iff.mp ht).1)
      have h3 := o.sm _ _ (hD.de.at_ i t d ht hd)
      have li := (List.getElem?_eq_some_iff.mp hd).1
      have dn := hO.dn
      refine ⟨t, _, rfl, .inl (.inl h3), rfl, _, _, rfl, _, _, rfl, _, _, rfl, _, _, rfl, rfl, rfl, _, rfl, _, rfl, _, rfl, by show 3 ≤ sizeLine; decide, fun p np => ?_⟩
      have o4 := o.grow (same_new (o := .tup [.int (d.1 : Nat), .str d.2.1, .bl d.2.2.2]) np)
      obtain ⟨acc, q1, q2, q3⟩ := o4.more (t := p) (v := toldV d) upd_same
      refine ⟨acc, q1, by rw [q2, List.length_map, List.length_take]; omega, ?_⟩
      rw [List.take_add_one, hd, Option.toList_some, List.map_append]
      exact q3
    · rintro H1 o
      have e : S.deeds.take (a.da.map V.ref).length = S.deeds := List.take_of_length_le (by rw [List.length_map, hD.de.len]; exact Nat.le_refl _)
      rw [e] at o
      exact k D H1 o
end
end TG


namespace TG
open PySem PySem.Spec PyProof.Rows L2 Gx
/-! ### what is told of a def, told otherwise -/
section
variable {P : Program} {w : World} {K : PySem.W.Frag} {mg : Str → Option Value} {base : Heap} {k : Nat} {f : Addr} {fd : FuncData} {ps : List Str} {sp sp1 sp2 : Sp}
/-- a def that may raise, where it doesn't -/
def noE (sp : Sp) : Sp := fun vs H Q _ => sp vs H Q fun _ _ _ => False
theorem fn0_of (F : FnOk P w K mg base (L2.CX P w) k f fd ps sp) : FnOk P w K mg base CX0 k f fd ps (noE sp) := by
  refine ⟨fun vs H Q E h => F.len vs H Q _ h, fun A outer s H args us vs Q E hr e0 b r h => ?_⟩
  refine codeAny_mono (F.run A outer s H args us vs Q (fun _ _ _ => False) hr e0 b r h) fun r' s' hq => ?_
  cases r' with
  | error er =>
    obtain ⟨a, B, H', cls, d, _, _, _, _, _, _, _, z⟩ := hq
    exact z.elim
  | ok fl =>
    cases fl with
    | ret u => exact hq
    | next => exact hq
    | brk => exact False.elim hq
    | cont => exact False.elim hq
def orSp (sp1 sp2 : Sp) : Sp := fun vs H Q E => sp1 vs H Q E ∨ sp2 vs H Q E
theorem fn_or {CX : L2.CXT} (F1 : FnOk P w K mg base CX k f fd ps sp1) (F2 : FnOk P w K mg base CX k f fd ps sp2) : FnOk P w K mg base CX k f fd ps (orSp sp1 sp2) := by
  refine ⟨fun vs H Q E h => h.elim (F1.len vs H Q E) (F2.len vs H Q E), fun A outer s H args us vs Q E hr e0 b r h => ?_⟩
  rcases h with h | h
  · exact F1.run A outer s H args us vs Q E hr e0 b r h
  · exact F2.run A outer s H args us vs Q E hr e0 b r h
end
end TG


namespace TG
open PySem PySem.Spec PyProof.Rows L2 NdefX GenW Gx Lv
/-! ### methods that may raise -/
def tMethS (C : Addr) (m : Str) (sp : Sp) (E : L2.St → XK) (ta : TE) (t : L2.TA) : TE := fun σ H Q => ta σ H fun x H1 => ∃ a dx fs, x = .ref a ∧ H1 a = some (.ins C dx fs) ∧ fs.lookup m = none ∧ t σ H1 fun vs H2 => sp (.ref a :: vs) H2 Q (E σ)
section
variable {X : Cx} {CX : CXT} {k : Nat} {f C : Addr} {fd : FuncData} {ps : List Str} {sp : Sp} {E : L2.St → XK} {x m : Str} {p pos apos : Pos} {e o : Expr} {es : List Expr} {ta : TE} {t : L2.TA}
theorem pe_methS {pl : Sem Bool} (he : PE X o ta) (c : Cls X.K C) (hm : Meth X.K C m f) (F : FnOk X.prog X.w X.K X.mg X.base CX k f fd ps sp) (hr : Room k X.A) (hb : Binds X.K fd ps []) (hx : ∀ σ, PassesAt CX X σ (E σ)) (ha : PA X (e :: es) t)
    (hst : starEach (e :: es) X.env = (false, eval e X.env) :: starEach es X.env := by rfl) (hpl : (backTo pos (starEach es X.env)).any (·.1) = false := by rfl)
    (ht : eval (.Call (.Attribute o m apos) (e :: es) [] pos) X.env = (do
      let ov ← eval o X.env
      standAt apos.atName
      let (f, first) ← holding [ov] (getMethod ov m pl)
      callWith pos f first (backTo pos (starEach (e :: es) X.env)) (backToKw pos (keywordEach [] X.env))) := by rfl) :
    PE X (.Call (.Attribute o m apos) (e :: es) [] pos) (tMethS C m sp E ta t) := by
  refine ⟨fun pins s σ H Q I h => ?_⟩
  refine PySem.W.methodCall_KW (pl := pl) (thn (he.run pins s σ H _ I h) fun u s1 ⟨x, H1, I1, rx, a, dx, fs, ex, ea, l, q⟩ => ?_) ht
  subst ex
  obtain rfl : u = Value.ref a := rx
  refine getmeth_ok I1 ea c hm l ?_
  refine PySem.W.callWith_K (first := [.ref a]) (h₀ := X.base) I.ok.mod.kin hm.kp (thn (ha.run pos pins s1 σ H1 _ I1 q) fun us s2 ⟨vs, H2, I2, r, q2⟩ => ⟨I2.kIn, ?_⟩) hst hpl
  exact run_fnS (us := .ref a :: us) (vs := .ref a :: vs) F hr hb (hx σ) I2 (.cons rfl r) q2
end
end TG


namespace TG
open PySem PySem.Spec PyProof.Rows L2 Gx
structure ErrC (K : PySem.W.Frag) (mg : Str → Option Value) (x : Str) (C G : Addr) : Prop where
  mg_ : mg x = some (.ref C)
  exc : PySem.W.excIn K C [.type "ValueError", .type "Exception", .type "BaseException", .type "object"] "ValueError.__new__" = true
  kp : PySem.W.keepIn K (.ref C) = true
  sub : PySem.W.subIn K (.ref C) (.type "BaseException") = some true
  ty : PySem.W.typeIn K (.ref C) = some (.type "type")
  up : PySem.W.exmOne K (.ref C) (.ref G) = some true
/-! ### settle -/
def settleR (S : TSt) (signs : List Str) (order : List Nat) (deeds : List Deed) : TSt :=
  { S with signs := signs, order := order, deeds := deeds, there := thereR signs.length deeds, spots := S.spots.map (firstR order (thereR signs.length deeds)) }
structure SetOk (S : TSt) (signs : List Str) (order : List Nat) (deeds : List Deed) : Prop where
  one : ∀ z ∈ signs, z.length ≤ 1
  many : signs.length ≤ 9000
  ord : ∀ m ∈ order, m < signs.length
  ol : order.length ≤ 9000
  dm : ∀ d ∈ deeds, d.2.2.1 < signs.length
  dn : deeds.length ≤ 9000
  sp : ∀ s ∈ S.spots, s ∈ order ∧ ∃ m ∈ order.drop (order.idxOf s), (thereR signs.length deeds).getD m false = true
  pg : PgOk (rowsT (textR signs (thoseR order (thereR signs.length deeds))))
  h4 : S.spots.length ≤ 4
/-- what is there, as a page -/
abbrev pageR (signs : List Str) (order : List Nat) (deeds : List Deed) : List (List Str) := rowsT (textR signs (thoseR order (thereR signs.length deeds)))
structure SetPre (S : TSt) (signs : List Str) (order : List Nat) (deeds : List Deed) : Prop where
  one : ∀ z ∈ signs, z.length ≤ 1
  many : signs.length ≤ 9000
  ord : ∀ m ∈ order, m < signs.length
  ol : order.length ≤ 9000
  dm : ∀ d ∈ deeds, d.2.2.1 < signs.length
  dn : deeds.length ≤ 9000
  sp : ∀ s ∈ S.spots, s ∈ order ∧ ∃ m ∈ order.drop (order.idxOf s), (thereR signs.length deeds).getD m false = true
  sg : TxtSg (textR signs (thoseR order (thereR signs.length deeds)))
  h4 : S.spots.length ≤ 4
theorem firstR_mem {order : List Nat} {there : List Bool} {s : Nat} (h : ∃ m ∈ order.drop (order.idxOf s), there.getD m false = true) : firstR order there s ∈ thoseR order there := by
  obtain ⟨m, hm, ht⟩ := h
  unfold firstR
  cases e : (order.drop (order.idxOf s)).find? (fun m => there.getD m false) with
  | none => exact absurd ht (by have := List.find?_eq_none.mp e m hm; simpa using this)
  | some x =>
    exact List.mem_filter.mpr ⟨List.mem_of_mem_drop (List.mem_of_find?_eq_some e), List.find?_some (p := fun m => there.getD m false) e⟩
theorem SetOk.tok {S : TSt} {signs : List Str} {order : List Nat} {deeds : List Deed} (h : SetOk S signs order deeds) (o : TOk S) (hl : S.deeds.length ≤ deeds.length) : TOk (settleR S signs order deeds) :=
  ⟨h.one, h.many, h.ord, h.ol, thereR_len _ _, h.dm, h.dn, fun s hs => by
    obtain ⟨s0, h0, rfl⟩ := List.mem_map.mp hs
    exact firstR_mem (h.sp s0 h0).2, by show (S.spots.map _).length = _; rw [List.length_map]; exact o.hn, by show (S.spots.map _).length ≤ 4; rw [List.length_map]; exact o.h4, fun l hl2 => ⟨(o.un l hl2).1, fun n hn => Nat.lt_of_lt_of_le ((o.un l hl2).2 n hn) hl⟩⟩
section
variable {P : Program} {w : World} {K : PySem.W.Frag} {mg : Str → Option Value} {base : Heap} {cs : List (Addr × Addr)} {B : Addr}
abbrev setA (a : TA) (sg od th dl sp : Addr) (da : List Addr) : TA := { a with sg := sg, od := od, th := th, dl := dl, sp := sp, da := da }
theorem fs4 (a : TA) (sg od th dl : Addr) : putF "there" (.ref th) (putF "deeds" (.ref dl) (putF "order" (.ref od) (putF "signs" (.ref sg) a.fs))) = TA.fs { a with sg := sg, od := od, dl := dl, th := th } := by
  simp only [TA.fs, putF]
  rfl
theorem fs5 (a : TA) (sp : Addr) : putF "spots" (.ref sp) a.fs = TA.fs { a with sp := sp } := by
  simp only [TA.fs, putF]
  rfl
def spSettle (cs : List (Addr × Addr)) (B C : Addr) : Sp := fun vs H Q E => ∃ (tb sg od dl : Addr) (a : TA) (S : TSt) (signs : List Str) (order : List Nat) (deeds : List Deed) (da : List Addr), vs = [.ref tb, .ref sg, .ref od, .ref dl] ∧ Tabs cs H ∧ TabD B H tb a S ∧
  H sg = some (.lst (sV signs)) ∧ H od = some (.lst (nV order)) ∧ DeedsAt H dl da deeds ∧ (∀ c ∈ a.ud :: a.ua, c ≠ sg ∧ c ≠ od ∧ c ≠ dl) ∧ SetPre S signs order deeds ∧
  (PgOk (pageR signs order deeds) →
  ∀ (th sp : Addr) (H' : Hp), H th = none → H sp = none → (∀ c o, H c = some o → NT cs c o → c ≠ tb → H' c = some o) → Tabs cs H' → (∀ b, H' b = none → H b = none) → TabD B H' tb (setA a sg od th dl sp da) (settleR S signs order deeds) → Q .non H') ∧
  (¬ PgOk (pageR signs order deeds) → ∀ H', Ex cs H H' → E (.ref C) none H')
abbrev nmSet : List Str := ["self", "signs", "order", "deeds", "there", "rows", "spot"]
theorem sc_settle : FnScope nmSet ["self", "signs", "order", "deeds"] (defScope (mth nTable 16)) := ⟨rfl, rfl, rfl, by decide +kernel, rfl, by decide +kernel, by decide +kernel⟩
theorem pageAt_of {r : Addr} {ps : List Addr} {rows : List (List Str)} {H : Hp} (h : H r = some (.lst (ps.map V.ref))) (p : RowsAt ps rows H) : PageAt K H r ps rows := ⟨SqL.of h, p.len, fun i q z h1 h2 => SqT.of (p.row i q z h1 h2)⟩
theorem ok_settle {C G : Addr} {f g1 g2 g3 g4 g5 g6 : Addr} {fd fd1 fd2 fd3 fd4 fd5 fd6 : FuncData} (T : Txt mg) (Er : ErrC K mg "TooMuch" C G) (X : TabC K B) (F : Fun K "settle" "Table.settle" (mth nTable 16) f fd)
    (G1 : FnOk P w K mg base CX0 1 g1 fd1 ["many", "deeds"] (spMarks K)) (k1 : PySem.W.keepIn K (.ref g1) = true) (b1 : Binds K fd1 ["many", "deeds"] []) (m1 : mg "marks_there" = some (.ref g1))
    (G2 : FnOk P w K mg base CX0 1 g2 fd2 ["order", "there"] (spThose K)) (k2 : PySem.W.keepIn K (.ref g2) = true) (b2 : Binds K fd2 ["order", "there"] []) (m2 : mg "those_there" = some (.ref g2))
    (G3 : FnOk P w K mg base CX0 1 g3 fd3 ["signs", "marks"] (spTextOf K)) (k3 : PySem.W.keepIn K (.ref g3) = true) (b3 : Binds K fd3 ["signs", "marks"] []) (m3 : mg "text_of" = some (.ref g3))
    (G4 : FnOk P w K mg base CX0 1 g4 fd4 ["text"] (spRowsOf cs)) (k4 : PySem.W.keepIn K (.ref g4) = true) (b4 : Binds K fd4 ["text"] []) (m4 : mg "rows_of" = some (.ref g4))
    (G5 : FnOk P w K mg base CX0 10 g5 fd5 ["rows"] (orSp (spCheck K cs) (spMisB K cs))) (k5 : PySem.W.keepIn K (.ref g5) = true) (b5 : Binds K fd5 ["rows"] []) (m5 : mg "first_misfit" = some (.ref g5))
    (G6 : FnOk P w K mg base CX0 1 g6 fd6 ["order", "there", "spot"] (spFirst K)) (k6 : PySem.W.keepIn K (.ref g6) = true) (b6 : Binds K fd6 ["order", "there", "spot"] []) (m6 : mg "first_there" = some (.ref g6)) :
    FnOk P w K mg base (L2.CX P w) 11 f fd ["self", "signs", "order", "deeds"] (spSettle cs B C) := by
  refine F.okX sc_settle (fun vs H Q E h => ?_) (fun cdv A outer s H vs Q E hr h => ?_)
  · obtain ⟨tb, sg, od, dl, a, S, signs, order, deeds, da, rfl, _⟩ := h
    rfl
  · obtain ⟨tb, sg, od, dl, a, S, signs, order, deeds, da, rfl, hT, hD, hsg, hod, hdl, hn, hO, k, kx⟩ := h
    have nd := sc_settle.nd
    have r1 : Room 1 _ := hr.mono (by decide)
    refine ⟨_, pss_cons (ps_set (i := 4) nd rfl (.inr rfl) (pe_call G1 r1 (by rfl) m1 k1 b1 .nil pass0 (pa_cons (pe_callB call_len_seq (by rfl) T.len PySem.boot_len (pa_cons (pv 1) pa_nil)) (pa_cons (pv 3) pa_nil))))
      (pss_cons (ps_set (i := 5) nd rfl (.inl rfl) (pe_call G4 r1 (by rfl) m4 k4 b4 .nil pass0 (pa_cons (pe_call G3 r1 (by rfl) m3 k3 b3 .nil pass0 (pa_cons (pv 1) (pa_cons (pe_call G2 r1 (by rfl) m2 k2 b2 .nil pass0 (pa_cons (pv 2) (pa_cons (pv 4) pa_nil))) pa_nil))) pa_nil)))
      (pss_cons (ps_if (pt_cmpR op_notN (pe_call G5 hr (by rfl) m5 k5 b5 .nil pass0 (pa_cons (pv 5) pa_nil)) pe_non (nomark _)) (pss_one (ps_raise rfl (takes_of rfl rfl rfl rfl) (pmk_own PySem.F.excBase_ValueError Er.exc Er.mg_ Er.kp (raises_own Er.sub Er.ty) rfl))) pss_nil)
      (pss_cons (ps_fld (pv 0) (pv 1) rfl) (pss_cons (ps_fld (pv 0) (pv 2) rfl) (pss_cons (ps_fld (pv 0) (pv 3) rfl) (pss_cons (ps_fld (pv 0) (pv 4) rfl)
      (pss_one (ps_fld (pv 0) (pe_lc (own := [("spot", 6)]) (g := gName 6) (tt := tYes) rfl nd (pi_list (pe_fld (pv 0) rfl)) (blkOk_by (own := [("spot", 6)]) (N := nmSet) (sc := defScope (mth nTable 16)) (by decide +kernel))
        (fun _ _ _ _ _ => pg_name (i := 6) nd rfl (Or.inl rfl)) (fun _ _ _ _ _ => pts_nil) (fun _ _ _ _ _ => pe_call G6 r1 (by rfl) m6 k6 b6 .nil pass0 (pa_cons (pv 2) (pa_cons (pv 4) (pa_cons (pv 6) pa_nil))))) rfl)))))))), ?_⟩
    have hm := hO.many
    have hol := hO.ol
    refine ⟨_, rfl, sg, _, rfl, .inl (SqL.of hsg), _, rfl, signs.length, dl, da, deeds, by simp [sV], hdl, hO.dm, by omega, fun th H1 x1 nth hth => ?_⟩
    have tln := thereR_len signs.length deeds
    have e1 := same_ex x1 hT
    refine ⟨_, rfl, _, rfl, _, rfl, od, th, order, _, rfl, SqL.of (x1 _ _ hod), SqL.of hth, fun m hm => by rw [tln]; exact hO.ord m hm, by omega, fun D nD => ?_⟩
    have x2 := same_new (o := .lst (nV (thoseR order (thereR signs.length deeds)))) nD
    have hl : (thoseR order (thereR signs.length deeds)).length ≤ order.length := List.length_filter_le _ _
    refine ⟨sg, D, signs, _, rfl, SqL.of (x2 _ _ (x1 _ _ hsg)), SqL.of upd_same, fun m hm => hO.ord m (List.mem_filter.mp hm).1, by omega, hO.one, fun H2 x3 => ?_⟩
    have e2 := e1.trans (same_ex (same_trans x2 x3) e1.tab)
    have hth2 := x3 _ _ (x2 _ _ hth)
    have tl := textR_len (marks := thoseR order (thereR signs.length deeds)) hO.one
    refine ⟨_, rfl, e2.tab, by omega, fun r ps H3 x4 nr hr3 hps => ?_⟩
    by_cases pg : PgOk (pageR signs order deeds)
    rotate_left
    · obtain ⟨n, bn⟩ : ∃ n, BadAt (pageR signs order deeds) n := by
        rcases good_or (pageR signs order deeds) with g | g
        · exact absurd (good_pg hO.sg g) pg
        · exact g
      exact ⟨_, rfl, .inr ⟨r, ps, _, n, rfl, x4.tab, pageAt_of hr3 hps, fun q hq => ⟨(rowsT_pos _).2 q hq, fun x hx => (rowsT_sg hO.sg q hq x hx).1, fun x hx => Nat.le_trans (rowsT_sg hO.sg q hq x hx).2 (by omega)⟩, bn, fun H4 x5 => ⟨rfl, true, rfl, iteT (kx pg H4 (e2.trans (x4.trans x5)))⟩⟩⟩
    replace k := k pg
    refine ⟨_, rfl, .inl ⟨r, ps, _, rfl, x4.tab, pageAt_of hr3 hps, pg, fun H4 x5 => ?_⟩⟩
    have e4 := e2.trans (x4.trans x5)
    have hth4 := (x4.trans x5).lst hth2
    have hD4 := hD.gw e4.ext
    have hsg4 := e4.lst hsg
    have hod4 := e4.lst hod
    have hdl4 : DeedsAt H4 dl da deeds := ⟨e4.lst hdl.lst, hdl.len, fun i t d q1 q2 => e4.tup (hdl.at_ i t d q1 q2)⟩
    clear e1 e2 x1 x2 x3 x4 x5 hth hth2 nD
    refine ⟨rfl, false, rfl, iteF ?_⟩
    refine ⟨_, rfl, _, rfl, tb, B, a.dx, _, rfl, hD4.ob, X.cls, X.nSigns, by show 7 < 1000; decide, ?_⟩
    refine ⟨_, rfl, _, rfl, tb, B, a.dx, _, rfl, upd_same, X.cls, X.nOrder, by show 7 < 1000; decide, ?_⟩
    rw [upd_upd]
    refine ⟨_, rfl, _, rfl, tb, B, a.dx, _, rfl, upd_same, X.cls, X.nDeeds, by show 7 < 1000; decide, ?_⟩
    rw [upd_upd]
    refine ⟨_, rfl, _, rfl, tb, B, a.dx, _, rfl, upd_same, X.cls, X.nThere, by show 7 < 1000; decide, ?_⟩
    rw [upd_upd]
    rw [fs4]
    have nt : ∀ {c : Addr} {xs : List V}, H4 c = some (.lst xs) → c ≠ tb := fun h e => by rw [e, hD4.ob] at h; cases h
    have hb5 : upd H4 tb (.ins B a.dx { a with sg := sg, od := od, dl := dl, th := th }.fs) tb = some (.ins B a.dx { a with sg := sg, od := od, dl := dl, th := th }.fs) := upd_same
    have k5' : ∀ c o, H4 c = some o → c ≠ tb → upd H4 tb (.ins B a.dx { a with sg := sg, od := od, dl := dl, th := th }.fs) c = some o := fun c o h n => by rw [upd_ne n]; exact h
    have n5 : ∀ b, upd H4 tb (.ins B a.dx { a with sg := sg, od := od, dl := dl, th := th }.fs) b = none → H4 b = none := fun b hb => upd_old hD4.ob hb
    generalize upd H4 tb (.ins B a.dx { a with sg := sg, od := od, dl := dl, th := th }.fs) = H5 at hb5 k5' n5 ⊢
    refine ⟨_, rfl, tb, B, a.dx, _, _, rfl, hb5, X.cls, X.nSpots, rfl, a.sp, rfl, ⟨_, SqL.of (k5' _ _ hD4.sp (nt hD4.sp))⟩, fun L nL => ?_⟩
    have y5 : ∀ {o : HO}, Same H5 (upd H5 L o) := same_new nL
    refine lc_list (xs := nV S.spots) (fun i H' => H' = upd H5 L (.lst (nV ((S.spots.take i).map (firstR order (thereR signs.length deeds)))))) rfl (fun i H' _ x => by rw [x]; exact SqL.of (y5 _ _ (k5' _ _ hD4.sp (nt hD4.sp)))) ?_ ?_
    · rintro i x H' hx rfl
      obtain ⟨q, hq, rfl⟩ := get_map hx
      obtain ⟨q1, q2⟩ := hO.sp q (List.mem_of_getElem? hq)
      refine ⟨rfl, _, rfl, _, rfl, _, rfl, od, th, order, _, q, rfl, SqL.of (y5 _ _ (k5' _ _ hod4 (nt hod4))), SqL.of (y5 _ _ (k5' _ _ hth4 (nt hth4))), fun m hm => by rw [tln]; exact hO.ord m hm, by omega, q1, q2, _, upd_same, ?_, ?_⟩
      · have := hO.h4
        have szl : (9000 : Nat) < sizeLine := by decide
        rw [nV_len, List.length_map, List.length_take]
        omega
      · rw [upd_upd, List.take_add_one, hq]
        simp [nV]
    · rintro H' rfl
      have e : S.spots.take (nV S.spots).length = S.spots := List.take_of_length_le (by rw [nV_len]; exact Nat.le_refl _)
      rw [e]
      refine ⟨_, rfl, tb, B, a.dx, _, rfl, y5 _ _ hb5, X.cls, X.nSpots, by show 7 < 1000; decide, ?_⟩
      show Q .non (upd (upd H5 L (.lst (nV (S.spots.map (firstR order (thereR signs.length deeds)))))) tb (.ins B a.dx (setA a sg od th dl L da).fs))
      have nLt : L ≠ tb := fun e => by rw [e, hb5] at nL; cases nL
      have k6' : ∀ c o, H4 c = some o → c ≠ tb → upd (upd H5 L (.lst (nV (S.spots.map (firstR order (thereR signs.length deeds)))))) tb (.ins B a.dx (setA a sg od th dl L da).fs) c = some o := fun c o h n => by
        rw [upd_ne n]
        exact y5 _ _ (k5' c o h n)
      have nL4 := n5 L nL
      have ntT : ∀ {c : Addr} {xs : List V}, H4 c = some (.tup xs) → c ≠ tb := fun h e => by rw [e, hD4.ob] at h; cases h
      have nLc : ∀ {c : Addr} {o : HO}, H4 c = some o → L ≠ c := fun h e => by rw [← e, nL4] at h; cases h
      have nthc : ∀ {c : Addr} {o : HO}, H c = some o → c ≠ th := fun h e => by rw [e, nth] at h; cases h
      have nd0 := hD.nd
      rw [List.nodup_cons] at nd0
      have at4 : ∀ c ∈ a.ud :: a.ua, (∃ xs, H c = some (.lst xs)) ∧ ∃ o, H4 c = some o := fun c hc => by
        rcases List.mem_cons.mp hc with e | e
        · exact ⟨⟨_, e ▸ hD.ud⟩, _, e ▸ hD4.ud⟩
        · obtain ⟨i, hi⟩ := List.mem_iff_getElem?.mp e
          obtain ⟨l, hl⟩ := getP (xs := S.undone) (i := i) (by rw [← hD.ul]; exact (List.getElem?_eq_some_iff.mp hi).1)
          exact ⟨⟨_, hD.un i c l hi hl⟩, _, hD4.un i c l hi hl⟩
      refine k th L _ nth (e4.old _ nL4) (fun c o h n m => k6' c o (e4.any h n) m) ?_ (fun b hb => ?_) ?_
      · intro p hp
        obtain ⟨ps', h1, h2⟩ := e4.tab p hp
        exact ⟨ps', k6' _ _ h1 (fun z => by rw [z, hD4.ob] at h1; cases h1), h2⟩
      · refine e4.old b ?_
        cases e' : H4 b with
        | none => rfl
        | some u =>
          by_cases z : b = tb
          · rw [z, upd_same] at hb; cases hb
          · rw [k6' b u e' z] at hb; cases hb
      · refine ⟨upd_same, k6' _ _ hsg4 (nt hsg4), k6' _ _ hod4 (nt hod4), k6' _ _ hth4 (nt hth4), ⟨k6' _ _ hdl4.lst (nt hdl4.lst), hdl4.len, fun i t d q1 q2 => k6' _ _ (hdl4.at_ i t d q1 q2) (ntT (hdl4.at_ i t d q1 q2))⟩, by rw [upd_ne nLt, upd_same]; rfl, k6' _ _ hD4.ud (nt hD4.ud), hD4.ul, fun i u l q1 q2 => k6' _ _ (hD4.un i u l q1 q2) (nt (hD4.un i u l q1 q2)), List.nodup_cons.mpr ⟨fun h => ?_, nd0.2⟩, fun c hc => ?_⟩
        · obtain ⟨_, o, ho⟩ := at4 L h
          exact nLc ho rfl
        · rcases List.mem_cons.mp hc with e' | e'
          · rw [e']
            exact ⟨nLc hsg4, nLc hod4, nLc hth4, nLc hdl4.lst⟩
          · obtain ⟨h1, h2, h3⟩ := hn c e'
            obtain ⟨⟨xs, hx⟩, _⟩ := at4 c e'
            exact ⟨h1, h2, nthc hx, h3⟩
end
end TG


namespace TG
open PySem PySem.Spec PyProof.Rows L2 Gx
/-! ### undone -/
theorem nodup_inj {α : Type} {l : List α} (h : l.Nodup) {i j : Nat} {x : α} (h1 : l[i]? = some x) (h2 : l[j]? = some x) : i = j := by
  rw [List.nodup_iff_pairwise_ne, List.pairwise_iff_getElem] at h
  obtain ⟨a1, b1⟩ := List.getElem?_eq_some_iff.mp h1
  obtain ⟨a2, b2⟩ := List.getElem?_eq_some_iff.mp h2
  rcases Nat.lt_trichotomy i j with c | c | c
  · exact absurd (b1.trans b2.symm) (h i j a1 a2 c)
  · exact c
  · exact absurd (b2.trans b1.symm) (h j i a2 a1 c)
section
variable {B tb : Addr} {H H' : Hp} {a : TA} {S : TSt}
theorem TabD.nth (o : TabD B H tb a S) {h : Nat} (hh : h < S.undone.length) : ∃ u l, a.ua[h]? = some u ∧ S.undone[h]? = some l ∧ H u = some (.lst (nV l)) := by
  obtain ⟨u, hu⟩ := getP (xs := a.ua) (i := h) (by rw [o.ul]; exact hh)
  obtain ⟨l, hl⟩ := getP (xs := S.undone) (i := h) hh
  exact ⟨u, l, hu, hl, o.un h u l hu hl⟩
/-- one of the lists is written -/
theorem TabD.und (o : TabD B H tb a S) {h : Nat} {u : Addr} (hu : a.ua[h]? = some u) (l : List Nat) : TabD B (upd H u (.lst (nV l))) tb a { S with undone := S.undone.set h l } := by
  have mu : u ∈ a.ua := List.mem_of_getElem? hu
  have hlt := (List.getElem?_eq_some_iff.mp hu).1
  have nd := o.nd
  rw [List.nodup_cons, List.mem_cons, List.nodup_cons] at nd
  obtain ⟨d1, d2, d3, d4⟩ := o.dj u (by simp [mu])
  obtain ⟨l0, hl0⟩ := getP (xs := S.undone) (i := h) (by rw [← o.ul]; exact hlt)
  have h0 := o.un h u l0 hu hl0
  have f : ∀ {c : Addr} {x : HO}, c ≠ u → H c = some x → upd H u (.lst (nV l)) c = some x := fun n h => by rw [upd_ne n]; exact h
  have ft : ∀ {c : Addr} {us : List V}, H c = some (.tup us) → c ≠ u := fun h e => by rw [e, h0] at h; cases h
  refine ⟨f (fun e => by have := o.ob; rw [e, h0] at this; cases this) o.ob, f d1.symm o.sg, f d2.symm o.od, f d3.symm o.th, ⟨f d4.symm o.de.lst, o.de.len, fun i t dd h1 h2 => f (ft (o.de.at_ i t dd h1 h2)) (o.de.at_ i t dd h1 h2)⟩,
    f (fun e => nd.1 (.inr (e ▸ mu))) o.sp, f (fun e => nd.2.1 (e ▸ mu)) o.ud, by show _ = (S.undone.set h l).length; rw [List.length_set]; exact o.ul, fun i v m h1 h2 => ?_, o.nd, o.dj⟩
  have h2 : (S.undone.set h l)[i]? = some m := h2
  by_cases e : i = h
  · subst e
    rw [hu] at h1
    cases h1
    rw [List.getElem?_set_self (by rw [← o.ul]; exact hlt)] at h2
    cases h2
    exact upd_same
  · rw [List.getElem?_set_ne (fun z => e z.symm)] at h2
    refine f (fun z => ?_) (o.un i v m h1 h2)
    subst z
    exact e (nodup_inj nd.2.2 h1 hu)
/-- a new list is put in the place of one -/
theorem TabD.und0 (o : TabD B H tb a S) {h : Nat} {n : Addr} {l : List Nat} (hn : H n = some (.lst (nV l))) (hh : h < S.undone.length) (nn : n ≠ a.sp ∧ n ≠ a.ud ∧ n ∉ a.ua) (nm : n ≠ a.sg ∧ n ≠ a.od ∧ n ≠ a.th ∧ n ≠ a.dl) :
    TabD B (upd H a.ud (.lst ((a.ua.set h n).map V.ref))) tb { a with ua := a.ua.set h n } { S with undone := S.undone.set h l } := by
  have nd := o.nd
  rw [List.nodup_cons, List.mem_cons, List.nodup_cons] at nd
  obtain ⟨d1, d2, d3, d4⟩ := o.dj a.ud (by simp)
  have f : ∀ {c : Addr} {x : HO}, c ≠ a.ud → H c = some x → upd H a.ud (.lst ((a.ua.set h n).map V.ref)) c = some x := fun n h => by rw [upd_ne n]; exact h
  have ft : ∀ {c : Addr} {us : List V}, H c = some (.tup us) → c ≠ a.ud := fun h e => by rw [e, o.ud] at h; cases h
  have hlt : h < a.ua.length := by rw [o.ul]; exact hh
  have ms : ∀ c ∈ a.ua.set h n, c ∈ a.ua ∨ c = n := fun c hc => List.mem_or_eq_of_mem_set hc
  refine ⟨f (fun e => by have := o.ob; rw [e, o.ud] at this; cases this) o.ob, f d1.symm o.sg, f d2.symm o.od, f d3.symm o.th, ⟨f d4.symm o.de.lst, o.de.len, fun i t dd h1 h2 => f (ft (o.de.at_ i t dd h1 h2)) (o.de.at_ i t dd h1 h2)⟩,
    f (fun e => nd.1 (.inl e)) o.sp, upd_same, by show (a.ua.set h n).length = (S.undone.set h l).length; rw [List.length_set, List.length_set]; exact o.ul, fun i v m h1 h2 => ?_, ?_, fun c hc => ?_⟩
  · have h1 : (a.ua.set h n)[i]? = some v := h1
    have h2 : (S.undone.set h l)[i]? = some m := h2
    by_cases e : i = h
    · subst e
      rw [List.getElem?_set_self hlt] at h1
      rw [List.getElem?_set_self hh] at h2
      cases h1
      cases h2
      exact f nn.2.1 hn
    · rw [List.getElem?_set_ne (fun z => e z.symm)] at h1 h2
      exact f (fun z => nd.2.1 (z ▸ List.mem_of_getElem? h1)) (o.un i v m h1 h2)
  · show (a.sp :: a.ud :: a.ua.set h n).Nodup
    rw [List.nodup_cons, List.mem_cons, List.nodup_cons]
    refine ⟨fun z => ?_, fun z => ?_, ?_⟩
    · rcases z with z | z
      · exact nd.1 (.inl z)
      · rcases ms _ z with z | z
        · exact nd.1 (.inr z)
        · exact nn.1 z.symm
    · rcases ms _ z with z | z
      · exact nd.2.1 z
      · exact nn.2.1 z.symm
    · rw [List.nodup_iff_pairwise_ne, List.pairwise_iff_getElem]
      intro i j hi hj hij
      rw [List.length_set] at hi hj
      rw [List.getElem_set, List.getElem_set]
      have ne : ∀ k (hk : k < a.ua.length), a.ua[k] ≠ n := fun k hk z => nn.2.2 (z ▸ List.getElem_mem hk)
      by_cases c1 : h = i
      · rw [if_pos c1, if_neg (by omega)]
        exact (ne j hj).symm
      · rw [if_neg c1]
        by_cases c2 : h = j
        · rw [if_pos c2]
          exact ne i hi
        · rw [if_neg c2]
          exact fun z => by have := nodup_inj nd.2.2 (List.getElem?_eq_getElem hi) ((List.getElem?_eq_getElem hj).trans (congrArg some z.symm)); omega
  · have hc : c ∈ a.sp :: a.ud :: a.ua.set h n := hc
    rcases List.mem_cons.mp hc with z | z
    · exact o.dj c (by simp [z])
    · rcases List.mem_cons.mp z with z | z
      · exact o.dj c (by simp [z])
      · rcases ms _ z with z | z
        · exact o.dj c (by simp [z])
        · rw [z]; exact nm
end
/-! ### turn -/
def turnR (S : TSt) (n : Nat) (st : Bool) : List Deed := match S.deeds[n]? with
  | some d => S.deeds.set n (d.1, d.2.1, d.2.2.1, st)
  | none => S.deeds
theorem turnR_len (S : TSt) (n : Nat) (st : Bool) : (turnR S n st).length = S.deeds.length := by
  unfold turnR
  split
  · rw [List.length_set]
  · rfl
theorem setA_own {tb : Addr} {a : TA} {sg od th dl sp : Addr} {da : List Addr} {c : Addr} (h : ownT tb (setA a sg od th dl sp da) c) : ownT tb a c ∨ c = sg ∨ c = od ∨ c = th ∨ c = dl ∨ c = sp := by
  rcases h with e | e | e | e | e | e | e | e
  · exact .inl (.inl e)
  · exact .inr (.inl e)
  · exact .inr (.inr (.inl e))
  · exact .inr (.inr (.inr (.inl e)))
  · exact .inr (.inr (.inr (.inr (.inl e))))
  · exact .inr (.inr (.inr (.inr (.inr e))))
  · exact .inl (.inr (.inr (.inr (.inr (.inr (.inr (.inl e)))))))
  · exact .inl (.inr (.inr (.inr (.inr (.inr (.inr (.inr e)))))))
section
variable {P : Program} {w : World} {K : PySem.W.Frag} {mg : Str → Option Value} {base : Heap} {cs : List (Addr × Addr)} {B : Addr}
/-- what a table does, and its lists of the undone stay where they are -/
def Went2 (cs : List (Addr × Addr)) (B : Addr) (H : Hp) (tb : Addr) (a : TA) (S' : TSt) (Q : Hp → Prop) : Prop :=
  ∀ (a' : TA) (H' : Hp), a'.ud = a.ud → a'.ua = a.ua → a'.st = a.st → (∀ c o, H c = some o → NT cs c o → c ≠ tb → H' c = some o) → (∀ c, ownT tb a' c → ownT tb a c ∨ H c = none) → Tabs cs H' → (∀ b, H' b = none → H b = none) → TabD B H' tb a' S' → Q H'
def spTurn (cs : List (Addr × Addr)) (B C : Addr) : Sp := fun vs H Q E => ∃ (tb : Addr) (n : Nat) (st : Bool) (a : TA) (S : TSt), vs = [.ref tb, .int (n : Nat), .bl st] ∧ Tabs cs H ∧ TabD B H tb a S ∧ n < S.deeds.length ∧ SetPre S S.signs S.order (turnR S n st) ∧
  (PgOk (pageR S.signs S.order (turnR S n st)) → Went2 cs B H tb a (settleR S S.signs S.order (turnR S n st)) fun H' => Q .non H') ∧
  (¬ PgOk (pageR S.signs S.order (turnR S n st)) → ∀ H', Ex cs H H' → E (.ref C) none H')
abbrev nmTurn : List Str := ["self", "number", "stands", "hand", "sign", "mark", "stood", "deeds"]
theorem sc_turn : FnScope nmTurn ["self", "number", "stands"] (defScope (mth nTable 15)) := ⟨rfl, rfl, rfl, by decide +kernel, rfl, by decide +kernel, by decide +kernel⟩
theorem ok_turn {C : Addr} {f g : Addr} {fd fdg : FuncData} (T : Txt mg) (X : TabC K B) (F : Fun K "turn" "Table.turn" (mth nTable 15) f fd)
    (M : Meth K B "settle" g) (G : FnOk P w K mg base (L2.CX P w) 11 g fdg ["self", "signs", "order", "deeds"] (spSettle cs B C)) (bd : Binds K fdg ["self", "signs", "order", "deeds"] []) : FnOk P w K mg base (L2.CX P w) 12 f fd ["self", "number", "stands"] (spTurn cs B C) := by
  refine F.okX sc_turn (fun vs H Q E h => ?_) (fun cdv A outer s H vs Q E hr h => ?_)
  · obtain ⟨tb, n, st, a, S, rfl, _⟩ := h
    rfl
  · obtain ⟨tb, n, st, a, S, rfl, hT, hD, hn, hO, k, kx⟩ := h
    have nd := sc_turn.nd
    refine ⟨_, pss_cons (ps_asg (pe_ix ix_list (pe_fld (pv 0) rfl) (pv 1) (fun _ _ => rfl)) (pg_tup rfl (pgs_cons (pg_name (i := 3) nd rfl (.inl rfl)) (pgs_cons (pg_name (i := 4) nd rfl (.inl rfl)) (pgs_cons (pg_name (i := 5) nd rfl (.inl rfl)) (pgs_cons (pg_name (i := 6) nd rfl (.inl rfl)) pgs_nil))))))
      (pss_cons (ps_set (i := 7) nd rfl (.inl rfl) (pe_callTy call_list_of (by rfl) T.list (by decide +kernel) (pa_cons (pe_fld (pv 0) rfl) pa_nil)))
      (pss_cons (ps_asg (pe_tup (pa_cons (pv 3) (pa_cons (pv 4) (pa_cons (pv 5) (pa_cons (pv 2) pa_nil))))) (pg_sub (pv 7) (pv 1) set_list))
      (pss_one (ps_expr (pe_methS (pv 0) X.cls M G hr bd (fun σ => passAt (takes_of rfl rfl rfl rfl) σ) (pa_cons (pe_fld (pv 0) rfl) (pa_cons (pe_fld (pv 0) rfl) (pa_cons (pv 7) pa_nil)))))))), ?_⟩
    obtain ⟨d, hd⟩ := getP (xs := S.deeds) (i := n) hn
    obtain ⟨t, ht⟩ := getP (xs := a.da) (i := n) (by rw [hD.de.len]; exact hn)
    have htd := hD.de.at_ n t d ht hd
    have ed : turnR S n st = S.deeds.set n (d.1, d.2.1, d.2.2.1, st) := by unfold turnR; rw [hd]
    refine ⟨_, rfl, tb, B, a.dx, _, _, rfl, hD.ob, X.cls, X.nDeeds, rfl, _, rfl, a.dl, _, _, .ref t, rfl, rfl, SqL.of hD.de.lst, atI_nat (by rw [List.getElem?_map, ht]; rfl), t, _, rfl, .inl (.inl htd), rfl, _, _, rfl, _, _, rfl, _, _, rfl, _, _, rfl, rfl, ?_⟩
    refine ⟨_, rfl, tb, B, a.dx, _, _, rfl, hD.ob, X.cls, X.nDeeds, rfl, a.dl, _, rfl, .inl (SqL.of hD.de.lst), fun L nL => ?_⟩
    have x1 : ∀ {o : HO}, Same H (upd H L o) := same_new nL
    refine ⟨_, rfl, _, rfl, _, rfl, _, rfl, by show 4 ≤ sizeLine; decide, fun p np => ⟨_, rfl, _, rfl, L, _, _, n, rfl, rfl, by rw [upd_ne (ne_of_none upd_same np)]; exact upd_same, ixN_nat (by rw [List.length_map, hD.de.len]; exact hn), ?_⟩⟩
    have npL : p ≠ L := fun e => by rw [e, upd_same] at np; cases np
    have np0 : H p = none := by rw [upd_ne npL] at np; exact np
    have em : (a.da.map V.ref).set n (V.ref p) = (a.da.set n p).map V.ref := by rw [List.map_set]
    dsimp only
    rw [em]
    have hx : ∀ c o, H c = some o → upd (upd (upd H L (.lst (a.da.map V.ref))) p (.tup [.int (d.1 : Nat), .str d.2.1, .int (d.2.2.1 : Nat), .bl st])) L (.lst ((a.da.set n p).map V.ref)) c = some o := fun c o h => by
      rw [upd_ne (ne_of_none h nL), upd_ne (ne_of_none h np0), upd_ne (ne_of_none h nL)]
      exact h
    have hxs : Same H (upd (upd (upd H L (.lst (a.da.map V.ref))) p (.tup [.int (d.1 : Nat), .str d.2.1, .int (d.2.2.1 : Nat), .bl st])) L (.lst ((a.da.set n p).map V.ref))) := hx
    have hp : upd (upd (upd H L (.lst (a.da.map V.ref))) p (.tup [.int (d.1 : Nat), .str d.2.1, .int (d.2.2.1 : Nat), .bl st])) L (.lst ((a.da.set n p).map V.ref)) p = some (.tup [.int (d.1 : Nat), .str d.2.1, .int (d.2.2.1 : Nat), .bl st]) := by rw [upd_ne npL, upd_same]
    have hL : upd (upd (upd H L (.lst (a.da.map V.ref))) p (.tup [.int (d.1 : Nat), .str d.2.1, .int (d.2.2.1 : Nat), .bl st])) L (.lst ((a.da.set n p).map V.ref)) L = some (.lst ((a.da.set n p).map V.ref)) := upd_same
    generalize upd (upd (upd H L (.lst (a.da.map V.ref))) p (.tup [.int (d.1 : Nat), .str d.2.1, .int (d.2.2.1 : Nat), .bl st])) L (.lst ((a.da.set n p).map V.ref)) = H1 at hxs hp hL ⊢
    clear hx
    have hD1 := hD.same hxs
    have e1 := same_ex hxs hT
    have hdl : DeedsAt H1 L (a.da.set n p) (turnR S n st) := by
      refine ⟨hL, by rw [List.length_set, turnR_len]; exact hD.de.len, fun i q dd h1 h2 => ?_⟩
      rw [ed] at h2
      by_cases e : i = n
      · subst e
        rw [List.getElem?_set_self (by rw [hD.de.len]; exact hn)] at h1
        rw [List.getElem?_set_self hn] at h2
        cases h1
        cases h2
        exact hp
      · rw [List.getElem?_set_ne (fun z => e z.symm)] at h1 h2
        exact hxs _ _ (hD.de.at_ i q dd h1 h2)
    have old : ∀ {c : Addr} {o : HO}, H c = some o → c ≠ L := fun h => ne_of_none h nL
    have ou : ∀ c ∈ a.ud :: a.ua, c ≠ a.sg ∧ c ≠ a.od ∧ c ≠ L := fun c hc => by
      obtain ⟨h1, h2, _, _⟩ := hD.dj c (List.mem_cons_of_mem _ hc)
      refine ⟨h1, h2, ?_⟩
      rcases List.mem_cons.mp hc with e | e
      · rw [e]; exact old hD.ud
      · obtain ⟨i, hi⟩ := List.mem_iff_getElem?.mp e
        obtain ⟨l, hl⟩ := getP (xs := S.undone) (i := i) (by rw [← hD.ul]; exact (List.getElem?_eq_some_iff.mp hi).1)
        exact old (hD.un i c l hi hl)
    refine ⟨_, rfl, tb, a.dx, _, rfl, hD1.ob, rfl, _, rfl, tb, B, a.dx, _, _, rfl, hD1.ob, X.cls, X.nSigns, rfl, _, rfl, tb, B, a.dx, _, _, rfl, hD1.ob, X.cls, X.nOrder, rfl, _, rfl, tb, a.sg, a.od, L, a, S, S.signs, S.order, turnR S n st, _, rfl, e1.tab, hD1, hD1.sg, hD1.od, hdl, ou, hO, fun pg th sp H2 nth nsp kk t2 o2 hD2 => ?_, fun pg H2 x2 => kx pg H2 (e1.trans x2)⟩
    refine k pg (setA a a.sg a.od th L sp (a.da.set n p)) H2 rfl rfl rfl (fun c o h n m => kk c o (hxs c o h) n m) (fun c hc => ?_) t2 (fun b hb => e1.old b (o2 b hb)) hD2
    rcases setA_own hc with z | z | z | z | z | z
    · exact .inl z
    · exact .inl (z ▸ .inr (.inl rfl))
    · exact .inl (z ▸ .inr (.inr (.inl rfl)))
    · exact .inr (z ▸ same_old hxs nth)
    · exact .inr (z ▸ nL)
    · exact .inr (z ▸ same_old hxs nsp)
end
end TG


namespace TG
open PySem PySem.Spec PyProof.Rows L2 Gx
/-! ### back, again, rub -/
def d0 : Deed := (0, "", 0, false)
def stR (ds : List Deed) (h n : Nat) : List Nat := (List.range n).filter fun i => decide ((ds.getD i d0).1 = h) && (ds.getD i d0).2.2.2
theorem stR_succ {ds : List Deed} {h i : Nat} {d : Deed} (hd : ds[i]? = some d) : stR ds h (i + 1) = stR ds h i ++ if (decide (d.1 = h) && d.2.2.2) = true then [i] else [] := by
  have e : ds.getD i d0 = d := by rw [List.getD_eq_getElem?_getD, hd]; rfl
  unfold stR
  rw [List.range_succ, List.filter_append, List.filter_cons, List.filter_nil, e]
theorem stR_len (ds : List Deed) (h n : Nat) : (stR ds h n).length ≤ n := by
  unfold stR
  have := List.length_filter_le (fun i => decide ((ds.getD i d0).1 = h) && (ds.getD i d0).2.2.2) (List.range n)
  rw [List.length_range] at this
  exact this
theorem stR_lt {ds : List Deed} {h n m : Nat} (hm : m ∈ stR ds h n) : m < n := List.mem_range.mp (List.mem_filter.mp hm).1
theorem atN_last {l : List Nat} (h : l ≠ []) : atI (nV l) (-1) = some (.int (l.getLast?.getD 0 : Nat)) := by
  have lp : 0 < l.length := List.length_pos_iff.mpr h
  have e : ixN (nV l).length (-1) = some (l.length - 1) := by
    unfold ixN nV
    rw [List.length_map]
    simp
    omega
  unfold atI
  rw [e]
  show (nV l)[l.length - 1]? = _
  refine (nV_get (m := l.getLast?.getD 0) ?_)
  rw [List.getLast?_eq_getElem?, List.getElem?_eq_getElem (by omega)]
  rfl
/-- what going back does -/
def backR (S : TSt) (h : Nat) : Bool × TSt := match (stR S.deeds h S.deeds.length).getLast? with
  | none => (false, S)
  | some n => (true, { settleR S S.signs S.order (turnR S n false) with undone := S.undone.set h (S.undone.getD h [] ++ [n]) })
def againR (S : TSt) (h : Nat) : Bool × TSt := match (S.undone.getD h []).getLast? with
  | none => (false, S)
  | some n => (true, { settleR S S.signs S.order (turnR S n true) with undone := S.undone.set h (S.undone.getD h []).dropLast })
def rubR (S : TSt) (h m : Nat) : TSt := { settleR S S.signs S.order (S.deeds ++ [((h, ("" : Str), m, true) : Deed)]) with undone := S.undone.set h [] }
theorem ownT_eq {tb : Addr} {a : TA} {u : List Addr} {c : Addr} (h : ownT tb { a with ua := u } c) : ownT tb a c ∨ c ∈ u := by
  rcases h with e | e | e | e | e | e | e | e
  · exact .inl (.inl e)
  · exact .inl (.inr (.inl e))
  · exact .inl (.inr (.inr (.inl e)))
  · exact .inl (.inr (.inr (.inr (.inl e))))
  · exact .inl (.inr (.inr (.inr (.inr (.inl e)))))
  · exact .inl (.inr (.inr (.inr (.inr (.inr (.inl e))))))
  · exact .inl (.inr (.inr (.inr (.inr (.inr (.inr (.inl e)))))))
  · exact .inr e
section
variable {P : Program} {w : World} {K : PySem.W.Frag} {mg : Str → Option Value} {base : Heap} {cs : List (Addr × Addr)} {B C G : Addr}
def spTBack (cs : List (Addr × Addr)) (B C : Addr) : Sp := fun vs H Q E => ∃ (tb : Addr) (h : Nat) (a : TA) (S : TSt), vs = [.ref tb, .int (h : Nat)] ∧ Tabs cs H ∧ TabD B H tb a S ∧ TOk S ∧ h < S.spots.length ∧ (∀ n ∈ stR S.deeds h S.deeds.length, SetPre S S.signs S.order (turnR S n false)) ∧
  ((∀ n, (stR S.deeds h S.deeds.length).getLast? = some n → PgOk (pageR S.signs S.order (turnR S n false))) → Went cs B H tb a (backR S h).2 fun H' => Q (.bl (backR S h).1) H') ∧
  (∀ n, (stR S.deeds h S.deeds.length).getLast? = some n → ¬ PgOk (pageR S.signs S.order (turnR S n false)) → ∀ H', Ex cs H H' → E (.ref C) none H')
abbrev nmTBack : List Str := ["self", "hand", "standing", "number", "own", "sign", "mark", "stands"]
theorem sc_tback : FnScope nmTBack ["self", "hand"] (defScope (mth nTable 3)) := ⟨rfl, rfl, rfl, by decide +kernel, rfl, by decide +kernel, by decide +kernel⟩
theorem ok_tback {f g1 g2 : Addr} {fd fd1 fd2 : FuncData} (T : Txt mg) (X : TabC K B) (F : Fun K "back" "Table.back" (mth nTable 3) f fd)
    (M1 : Meth K B "check_hand" g1) (G1 : FnOk P w K mg base CX0 2 g1 fd1 ["self", "hand"] (spHand B)) (b1 : Binds K fd1 ["self", "hand"] [])
    (M2 : Meth K B "turn" g2) (G2 : FnOk P w K mg base (L2.CX P w) 12 g2 fd2 ["self", "number", "stands"] (spTurn cs B C)) (b2 : Binds K fd2 ["self", "number", "stands"] []) : FnOk P w K mg base (L2.CX P w) 13 f fd ["self", "hand"] (spTBack cs B C) := by
  refine F.okX sc_tback (fun vs H Q E h => ?_) (fun cdv A outer s H vs Q E hr h => ?_)
  · obtain ⟨tb, h, a, S, rfl, _⟩ := h
    rfl
  · obtain ⟨tb, h, a, S, rfl, hT, hD, hO, hh, hs, k, kx⟩ := h
    have nd := sc_tback.nd
    have r2 : Room 2 _ := hr.mono (by decide)
    have szl : (9000 : Nat) < sizeLine := by decide
    have dn := hO.dn
    refine ⟨_, pss_cons (ps_expr (pe_meth (pv 0) X.cls M1 G1 r2 b1 .nil pass0 (pa_cons (pv 1) pa_nil)))
      (pss_cons (ps_setLc (i := 2) (own := [("number", 3), ("own", 4), ("sign", 5), ("mark", 6), ("stands", 7)]) (g := gTup K 2 (gCons (gName 3) (gCons (gTup K 4 (gCons (gName 4) (gCons (gName 5) (gCons (gName 6) (gCons (gName 7) gNil))))) gNil))) rfl nd rfl rfl (sw_true rfl rfl rfl (by decide +kernel)) (pi_enum (by rfl) T.enum (pa_cons (pe_fld (pv 0) rfl) pa_nil)) (blkOk_by (own := [("number", 3), ("own", 4), ("sign", 5), ("mark", 6), ("stands", 7)]) (N := nmTBack) (sc := defScope (mth nTable 3)) (by decide +kernel))
        (fun _ _ _ _ _ => pg_tup rfl (pgs_cons (pg_name (i := 3) nd rfl (.inl rfl) (.inr rfl)) (pgs_cons (pg_tup rfl (pgs_cons (pg_name (i := 4) nd rfl (.inl rfl) (.inr rfl)) (pgs_cons (pg_name (i := 5) nd rfl (.inl rfl) (.inr rfl)) (pgs_cons (pg_name (i := 6) nd rfl (.inl rfl) (.inr rfl)) (pgs_cons (pg_name (i := 7) nd rfl (.inl rfl) (.inr rfl)) pgs_nil))))) pgs_nil)))
        (fun _ _ _ _ _ => pts_one (PW.pt (pw_and (pt_cmpR op_eq (pv 4) (pv 1) (nomark _)) (pw_and1 (pt_val (pv 7)))))) (fun _ _ _ _ _ => pv 3))
      (pss_cons (ps_if (pt_cmpR op_eq (pe_callB call_len_seq (by rfl) T.len PySem.boot_len (pa_cons (pv 2) pa_nil)) pe_int (nomark _)) (pss_one (ps_ret pe_bl)) pss_nil)
      (pss_cons (ps_expr (pe_methS (pv 0) X.cls M2 G2 hr b2 (fun σ => passAt (takes_of rfl rfl rfl rfl) σ) (pa_cons (pe_ix ix_list (pv 2) (pe_un un_neg pe_int) (fun _ _ => rfl)) (pa_cons pe_bl pa_nil))))
      (pss_cons (ps_expr (pe_bm PySem.F.plainAttrs_list PySem.F.slot_list_append PySem.F.type_list_append mt_append (pe_ix ix_list (pe_fld (pv 0) rfl) (pv 1) (fun _ _ => rfl)) (pa_cons (pe_ix ix_list (pv 2) (pe_un un_neg pe_int) (fun _ _ => rfl)) pa_nil)))
      (pss_one (ps_ret pe_bl)))))), ?_⟩
    refine ⟨_, rfl, tb, a.dx, _, rfl, hD.ob, rfl, _, rfl, tb, h, a, S, rfl, hD, hh, ?_⟩
    refine ⟨_, rfl, tb, B, a.dx, _, _, rfl, hD.ob, X.cls, X.nDeeds, rfl, a.dl, _, rfl, SqL.of hD.de.lst, fun D nD => lc_it (walk_enum (xs := a.da.map V.ref)) (fun i H' => Same H H' ∧ H' D = some (.lst (nV (stR S.deeds h i)))) ⟨same_new nD, upd_same⟩ (fun i H' _ x => SqL.of (x.1 _ _ hD.de.lst)) ?_ ?_⟩
    · rintro i x H3 H4 hi ⟨o1, o2⟩ ⟨Tp, v, u, rfl, hn, rfl, hv, hu⟩
      cases hv
      obtain ⟨t, ht, rfl⟩ := get_map hu
      obtain ⟨d, hd⟩ := getP (xs := S.deeds) (i := i) (by rw [← hD.de.len]; exact (List.getElem?_eq_some_iff.mp ht).1)
      have x4 : Same H3 (upd H3 Tp (.tup [.int (i : Nat), .ref t])) := same_new hn
      have hTp : upd H3 Tp (.tup [.int (i : Nat), .ref t]) Tp = some (.tup [.int (i : Nat), .ref t]) := upd_same
      generalize upd H3 Tp (.tup [.int (i : Nat), .ref t]) = H4 at x4 hTp ⊢
      have htd := x4 _ _ (o1 _ _ (hD.de.at_ i t d ht hd))
      have li := (List.getElem?_eq_some_iff.mp hd).1
      refine ⟨Tp, _, rfl, .inl (.inl hTp), rfl, _, _, rfl, _, _, rfl, ⟨t, _, rfl, .inl (.inl htd), rfl, _, _, rfl, _, _, rfl, _, _, rfl, _, _, rfl, rfl, rfl, rfl, ?_⟩⟩
      rw [stR_succ hd]
      refine ⟨_, rfl, _, rfl, rfl, _, rfl, ?_⟩
      have ei : decide (V.int (d.1 : Nat) = V.int (h : Nat)) = decide (d.1 = h) := by
        by_cases c : d.1 = h
        · rw [decide_eq_true c, c, decide_eq_true rfl]
        · rw [decide_eq_false c, decide_eq_false (fun z => c (by injection z with z; omega))]
      rw [ei]
      have sl := stR_len S.deeds h i
      have o24 := x4 _ _ o2
      have ok4 : Same H H4 := same_trans o1 x4
      have fin : (decide (d.1 = h) && d.2.2.2) = true → ∃ acc, H4 D = some (.lst acc) ∧ acc.length < sizeLine ∧ (Same H (upd H4 D (.lst (acc ++ [.int (i : Nat)]))) ∧ upd H4 D (.lst (acc ++ [.int (i : Nat)])) D = some (.lst (nV (stR S.deeds h i ++ if (decide (d.1 = h) && d.2.2.2) = true then [i] else [])))) := fun c => by
        rw [if_pos c]
        exact ⟨_, o24, by rw [nV_len]; omega, same_upd ok4 nD, by rw [upd_same]; simp [nV]⟩
      by_cases c : d.1 = h
      · rw [decide_eq_true c]
        cases e2 : d.2.2.2 with
        | true =>
          rw [decide_eq_true c, e2] at fin
          exact iteT ⟨_, rfl, true, rfl, iteT ⟨_, rfl, fin rfl⟩⟩
        | false =>
          refine iteT ⟨_, rfl, false, rfl, iteF ⟨ok4, ?_⟩⟩
          simpa using o24
      · rw [decide_eq_false c]
        refine iteF (iteF ⟨ok4, ?_⟩)
        simpa using o24
    · rintro H1 ⟨x1, hDl⟩
      have e0 : (a.da.map V.ref).length = S.deeds.length := by rw [List.length_map]; exact hD.de.len
      rw [e0] at hDl
      have hD1 := hD.same x1
      have e1 := same_ex x1 hT
      have el : (nV (stR S.deeds h S.deeds.length)).length = (stR S.deeds h S.deeds.length).length := nV_len _
      refine ⟨_, rfl, D, _, rfl, .inl (SqL.of hDl), rfl, _, rfl, ?_⟩
      rw [el]
      cases eg : (stR S.deeds h S.deeds.length).getLast? with
      | none =>
        replace k := k (fun n z => by rw [eg] at z; cases z)
        unfold backR at k
        rw [eg] at k
        rw [List.getLast?_eq_none_iff.mp eg]
        exact iteT (k a H1 rfl (KN.same x1) (fun c hc => .inl hc) e1.tab (fun b hb => same_old x1 hb) hD1)
      | some n =>
        have mn := List.mem_of_getLast? eg
        have ne : stR S.deeds h S.deeds.length ≠ [] := fun z => by rw [z] at mn; cases mn
        have lp : 0 < (stR S.deeds h S.deeds.length).length := List.length_pos_iff.mpr ne
        have en : (stR S.deeds h S.deeds.length).getLast?.getD 0 = n := by rw [eg]; rfl
        have la := atN_last ne
        rw [en] at la
        rw [decide_eq_false (fun z => by injection z with z; omega)]
        have hu : h < S.undone.length := by rw [← hO.hn]; exact hh
        refine iteF ⟨_, rfl, tb, a.dx, _, rfl, hD1.ob, rfl, _, rfl, 1, rfl, D, _, _, _, rfl, rfl, SqL.of hDl, la, tb, n, false, a, S, rfl, e1.tab, hD1, stR_lt mn, hs n mn, fun pg a' H2 eud eua est kk ho t2 o2 hD2 => ?_, fun pg H2 x2 => kx n eg pg H2 (e1.trans x2)⟩
        replace k := k (fun m z => by rw [eg] at z; cases z; exact pg)
        unfold backR at k
        rw [eg] at k
        have nDt : D ≠ tb := fun z => by have := x1 _ _ hD.ob; rw [← z, hDl] at this; cases this
        have hDl2 := kk _ _ hDl (.inl fun ps z => by cases z) nDt
        obtain ⟨u, l, q1, q2, q3⟩ := hD2.nth (h := h) (by exact hu)
        have q2' : S.undone[h]? = some l := q2
        have el2 : S.undone.getD h [] = l := by rw [List.getD_eq_getElem?_getD, q2']; rfl
        have ll := (hO.un l (List.mem_of_getElem? q2')).1
        refine ⟨_, rfl, tb, B, _, _, _, rfl, hD2.ob, X.cls, X.nUndone, rfl, _, rfl, _, _, _, .ref u, rfl, rfl, SqL.of hD2.ud, atI_nat (by rw [List.getElem?_map, q1]; rfl), .inl ⟨rfl, _, SqL.of q3⟩, _, rfl, 1, rfl, D, _, _, _, rfl, rfl, SqL.of hDl2, la, u, _, _, rfl, rfl, q3, by rw [nV_len]; omega, ?_⟩
        have ea : nV l ++ [V.int (n : Nat)] = nV (l ++ [n]) := by simp [nV]
        rw [ea]
        rw [el2] at k
        have hD3 := hD2.und q1 (l ++ [n])
        have k2 : KN cs (ownT tb a) H H2 := fun c o h m nn => kk c o (x1 c o h) m fun z => nn (.inl z)
        have hc' : ∀ c, ownT tb a' c → ownT tb a c ∨ H c = none := fun c hc => (ho c hc).imp id fun z => same_old x1 z
        have uo : ownT tb a u := .inr (.inr (.inr (.inr (.inr (.inr (.inr (by rw [← eua]; exact List.mem_of_getElem? q1)))))))
        refine k a' _ est (k2.tr (upd_ownN uo)) hc' (tabs_lst t2 q3) (fun b hb => same_old x1 (o2 b (upd_old q3 hb))) hD3
end
end TG


namespace TG
open PySem PySem.Spec PyProof.Rows L2 Gx
section
variable {P : Program} {w : World} {K : PySem.W.Frag} {mg : Str → Option Value} {base : Heap} {cs : List (Addr × Addr)} {B C G : Addr}
def spTAgain (cs : List (Addr × Addr)) (B C : Addr) : Sp := fun vs H Q E => ∃ (tb : Addr) (h : Nat) (a : TA) (S : TSt), vs = [.ref tb, .int (h : Nat)] ∧ Tabs cs H ∧ TabD B H tb a S ∧ TOk S ∧ h < S.spots.length ∧ (∀ n ∈ S.undone.getD h [], SetPre S S.signs S.order (turnR S n true)) ∧
  ((∀ n, (S.undone.getD h []).getLast? = some n → PgOk (pageR S.signs S.order (turnR S n true))) → Went cs B H tb a (againR S h).2 fun H' => Q (.bl (againR S h).1) H') ∧
  (∀ n, (S.undone.getD h []).getLast? = some n → ¬ PgOk (pageR S.signs S.order (turnR S n true)) → ∀ H', Ex cs H H' → E (.ref C) none H')
theorem sc_tagain : FnScope ["self", "hand"] ["self", "hand"] (defScope (mth nTable 4)) := ⟨rfl, rfl, rfl, by decide +kernel, rfl, by decide +kernel, by decide +kernel⟩
theorem ok_tagain {f g1 g2 : Addr} {fd fd1 fd2 : FuncData} (T : Txt mg) (X : TabC K B) (F : Fun K "again" "Table.again" (mth nTable 4) f fd)
    (M1 : Meth K B "check_hand" g1) (G1 : FnOk P w K mg base CX0 2 g1 fd1 ["self", "hand"] (spHand B)) (b1 : Binds K fd1 ["self", "hand"] [])
    (M2 : Meth K B "turn" g2) (G2 : FnOk P w K mg base (L2.CX P w) 12 g2 fd2 ["self", "number", "stands"] (spTurn cs B C)) (b2 : Binds K fd2 ["self", "number", "stands"] []) : FnOk P w K mg base (L2.CX P w) 13 f fd ["self", "hand"] (spTAgain cs B C) := by
  refine F.okX sc_tagain (fun vs H Q E h => ?_) (fun cdv A outer s H vs Q E hr h => ?_)
  · obtain ⟨tb, h, a, S, rfl, _⟩ := h
    rfl
  · obtain ⟨tb, h, a, S, rfl, hT, hD, hO, hh, hs, k, kx⟩ := h
    have r2 : Room 2 _ := hr.mono (by decide)
    refine ⟨_, pss_cons (ps_expr (pe_meth (pv 0) X.cls M1 G1 r2 b1 .nil pass0 (pa_cons (pv 1) pa_nil)))
      (pss_cons (ps_if (pt_cmpR op_eq (pe_callB call_len_seq (by rfl) T.len PySem.boot_len (pa_cons (pe_ix ix_list (pe_fld (pv 0) rfl) (pv 1) (fun _ _ => rfl)) pa_nil)) pe_int (nomark _)) (pss_one (ps_ret pe_bl)) pss_nil)
      (pss_cons (ps_expr (pe_methS (pv 0) X.cls M2 G2 hr b2 (fun σ => passAt (takes_of rfl rfl rfl rfl) σ) (pa_cons (pe_ix ix_list (pe_ix ix_list (pe_fld (pv 0) rfl) (pv 1) (fun _ _ => rfl)) (pe_un un_neg pe_int) (fun _ _ => rfl)) (pa_cons pe_bl pa_nil))))
      (pss_cons (ps_expr (pe_bm0 PySem.F.plainAttrs_list PySem.F.slot_list_pop PySem.F.type_list_pop mt_pop (pe_ix ix_list (pe_fld (pv 0) rfl) (pv 1) (fun _ _ => rfl))))
      (pss_one (ps_ret pe_bl))))), ?_⟩
    have hu : h < S.undone.length := by rw [← hO.hn]; exact hh
    obtain ⟨u, l, q1, q2, q3⟩ := hD.nth hu
    have el : S.undone.getD h [] = l := by rw [List.getD_eq_getElem?_getD, q2]; rfl
    have eq1 : (a.ua.map V.ref)[h]? = some (.ref u) := by rw [List.getElem?_map, q1]; rfl
    refine ⟨_, rfl, tb, a.dx, _, rfl, hD.ob, rfl, _, rfl, tb, h, a, S, rfl, hD, hh, ?_⟩
    refine ⟨_, rfl, tb, B, a.dx, _, _, rfl, hD.ob, X.cls, X.nUndone, rfl, _, rfl, a.ud, _, _, .ref u, rfl, rfl, SqL.of hD.ud, atI_nat eq1, u, _, rfl, .inl (SqL.of q3), rfl, _, rfl, ?_⟩
    rw [nV_len]
    rw [el] at hs k kx
    cases eg : l.getLast? with
    | none =>
      replace k := k (fun n z => by rw [eg] at z; cases z)
      unfold againR at k
      rw [el, eg] at k
      rw [List.getLast?_eq_none_iff.mp eg]
      exact iteT (k a H rfl (KN.same same_refl) (fun c hc => .inl hc) hT (fun b hb => hb) hD)
    | some n =>
      have mn := List.mem_of_getLast? eg
      have ne : l ≠ [] := fun z => by rw [z] at mn; cases mn
      have lp : 0 < l.length := List.length_pos_iff.mpr ne
      have en : l.getLast?.getD 0 = n := by rw [eg]; rfl
      have la := atN_last ne
      rw [en] at la
      rw [decide_eq_false (fun z => by injection z with z; omega)]
      refine iteF ⟨_, rfl, tb, a.dx, _, rfl, hD.ob, rfl, _, rfl, tb, B, a.dx, _, _, rfl, hD.ob, X.cls, X.nUndone, rfl, _, rfl, a.ud, _, _, .ref u, rfl, rfl, SqL.of hD.ud, atI_nat eq1, 1, rfl, u, _, _, _, rfl, rfl, SqL.of q3, la, tb, n, true, a, S, rfl, hT, hD, (hO.un l (List.mem_of_getElem? q2)).2 n mn, hs n mn, fun pg a' H2 eud eua est kk ho t2 o2 hD2 => ?_, fun pg H2 x2 => kx n eg pg H2 x2⟩
      replace k := k (fun m z => by rw [eg] at z; cases z; exact pg)
      unfold againR at k
      rw [el, eg] at k
      have q1' : a'.ua[h]? = some u := by rw [eua]; exact q1
      have q3' : H2 u = some (.lst (nV l)) := hD2.un h u l q1' q2
      have lx : (nV l)[(nV l).length - 1]? = some (.int (n : Nat)) := by
        rw [nV_len]
        refine nV_get ?_
        rw [← en, List.getLast?_eq_getElem?, List.getElem?_eq_getElem (by omega)]
        rfl
      refine ⟨_, rfl, tb, B, _, _, _, rfl, hD2.ob, X.cls, X.nUndone, rfl, _, rfl, _, _, _, .ref u, rfl, rfl, SqL.of hD2.ud, atI_nat (by rw [List.getElem?_map, q1']; rfl), .inl ⟨rfl, _, SqL.of q3'⟩, u, _, _, rfl, rfl, q3', lx, ?_⟩
      have ea : (nV l).dropLast = nV l.dropLast := by unfold nV; rw [List.map_dropLast]
      rw [ea]
      have hD3 := hD2.und q1' l.dropLast
      have uo : ownT tb a u := .inr (.inr (.inr (.inr (.inr (.inr (.inr (List.mem_of_getElem? q1)))))))
      have k2 : KN cs (ownT tb a) H H2 := fun c o h m nn => kk c o h m fun z => nn (.inl z)
      exact k a' _ est (k2.tr (upd_ownN uo)) ho (tabs_lst t2 q3') (fun b hb => o2 b (upd_old q3' hb)) hD3
/-! ### rub -/
def spTRub (cs : List (Addr × Addr)) (B C TM : Addr) : Sp := fun vs H Q E => ∃ (tb : Addr) (h : Nat) (a : TA) (S : TSt), vs = [.ref tb, .int (h : Nat)] ∧ Tabs cs H ∧ TabD B H tb a S ∧ TOk S ∧ h < S.spots.length ∧
  (∀ m, nearR S h (-1) = some m → SetPre S S.signs S.order (S.deeds ++ [((h, ("" : Str), m, true) : Deed)]) ∧ (PgOk (pageR S.signs S.order (S.deeds ++ [((h, ("" : Str), m, true) : Deed)])) → Went cs B H tb a (rubR S h m) fun H' => Q .non H') ∧ (¬ PgOk (pageR S.signs S.order (S.deeds ++ [((h, ("" : Str), m, true) : Deed)])) → ∀ H', Ex cs H H' → E (.ref TM) none H')) ∧
  (nearR S h (-1) = none → ∀ H', Ex cs H H' → E (.ref C) none H')
abbrev nmTRub : List Str := ["self", "hand", "mark"]
theorem sc_trub : FnScope nmTRub ["self", "hand"] (defScope (mth nTable 2)) := ⟨rfl, rfl, rfl, by decide +kernel, rfl, by decide +kernel, by decide +kernel⟩
theorem ok_trub {TM : Addr} {f g1 g2 g3 : Addr} {fd fd1 fd2 fd3 : FuncData} (T : Txt mg) (Er : ErrC K mg "BadCell" C G) (X : TabC K B) (F : Fun K "rub" "Table.rub" (mth nTable 2) f fd)
    (M1 : Meth K B "check_hand" g1) (G1 : FnOk P w K mg base CX0 2 g1 fd1 ["self", "hand"] (spHand B)) (b1 : Binds K fd1 ["self", "hand"] [])
    (M2 : Meth K B "near" g2) (G2 : FnOk P w K mg base CX0 3 g2 fd2 ["self", "hand", "by"] (spNear B)) (b2 : Binds K fd2 ["self", "hand", "by"] [])
    (M3 : Meth K B "settle" g3) (G3 : FnOk P w K mg base (L2.CX P w) 11 g3 fd3 ["self", "signs", "order", "deeds"] (spSettle cs B TM)) (b3 : Binds K fd3 ["self", "signs", "order", "deeds"] []) : FnOk P w K mg base (L2.CX P w) 12 f fd ["self", "hand"] (spTRub cs B C TM) := by
  refine F.okX sc_trub (fun vs H Q E h => ?_) (fun cdv A outer s H vs Q E hr h => ?_)
  · obtain ⟨tb, h, a, S, rfl, _⟩ := h
    rfl
  · obtain ⟨tb, h, a, S, rfl, hT, hD, hO, hh, ky, kn⟩ := h
    have nd := sc_trub.nd
    have r2 : Room 2 _ := hr.mono (by decide)
    have r3 : Room 3 _ := hr.mono (by decide)
    refine ⟨_, pss_cons (ps_expr (pe_meth (pv 0) X.cls M1 G1 r2 b1 .nil pass0 (pa_cons (pv 1) pa_nil)))
      (pss_cons (ps_set (i := 2) nd rfl (.inl rfl) (pe_meth (pv 0) X.cls M2 G2 r3 b2 .nil pass0 (pa_cons (pv 1) (pa_cons (pe_un un_neg pe_int) pa_nil))))
      (pss_cons (ps_if (pt_cmpR op_isN (pv 2) pe_non (nomark _)) (pss_one (ps_raise rfl (takes_of rfl rfl rfl rfl) (pmk_own PySem.F.excBase_ValueError Er.exc Er.mg_ Er.kp (raises_own Er.sub Er.ty) rfl))) pss_nil)
      (pss_cons (ps_expr (pe_methS (pv 0) X.cls M3 G3 hr b3 (fun σ => passAt (takes_of rfl rfl rfl rfl) σ) (pa_cons (pe_fld (pv 0) rfl) (pa_cons (pe_fld (pv 0) rfl) (pa_cons (pe_op op_cat (pe_fld (pv 0) rfl) (pe_lst (pa_cons (pe_tup (pa_cons (pv 1) (pa_cons pe_str (pa_cons (pv 2) (pa_cons pe_bl pa_nil))))) pa_nil))) pa_nil)))))
      (pss_one (ps_asg (pe_lst pa_nil) (pg_sub (pe_fld (pv 0) rfl) (pv 1) set_list)))))), ?_⟩
    refine ⟨_, rfl, tb, a.dx, _, rfl, hD.ob, rfl, _, rfl, tb, h, a, S, rfl, hD, hh, ?_⟩
    refine ⟨_, rfl, tb, a.dx, _, rfl, hD.ob, rfl, _, rfl, 1, rfl, tb, h, -1, a, S, rfl, hD, hO, hh, fun H1 x1 => ?_⟩
    have hD1 := hD.same x1
    have e1 := same_ex x1 hT
    cases e : nearR S h (-1) with
    | none => exact ⟨_, rfl, rfl, true, rfl, iteT (kn e H1 e1)⟩
    | some m =>
      obtain ⟨hS, k, kx⟩ := ky m e
      refine ⟨_, rfl, rfl, false, rfl, iteF ?_⟩
      have dl := hS.dn
      rw [List.length_append] at dl
      have szl : (9000 : Nat) < sizeLine := by decide
      refine ⟨_, rfl, tb, a.dx, _, rfl, hD1.ob, rfl, _, rfl, tb, B, a.dx, _, _, rfl, hD1.ob, X.cls, X.nSigns, rfl, _, rfl, tb, B, a.dx, _, _, rfl, hD1.ob, X.cls, X.nOrder, rfl, _, rfl, tb, B, a.dx, _, _, rfl, hD1.ob, X.cls, X.nDeeds, rfl, _, rfl, _, rfl, by show 4 ≤ sizeLine; decide, fun p np => ⟨by show 1 ≤ sizeLine; decide, fun q nq => ?_⟩⟩
      have y1 := same_new (o := .tup [.int (h : Nat), .str "", nonN (some m), .bl true]) np
      have y2 := same_new (o := .lst [.ref p]) nq
      have hq : upd (upd H1 p (.tup [.int (h : Nat), .str "", nonN (some m), .bl true])) q (.lst [.ref p]) q = some (.lst [.ref p]) := upd_same
      have hp := y2 _ _ (upd_same (H := H1) (a := p) (o := .tup [.int (h : Nat), .str "", nonN (some m), .bl true]))
      have yy := same_trans y1 y2
      show rCat _ _ (upd (upd H1 p (.tup [.int (h : Nat), .str "", nonN (some m), .bl true])) q (.lst [.ref p])) _
      generalize upd (upd H1 p (.tup [.int (h : Nat), .str "", nonN (some m), .bl true])) q (.lst [.ref p]) = H2 at yy hq hp ⊢
      clear y1 y2
      have hD2 := hD1.same yy
      refine ⟨a.dl, q, _, _, rfl, rfl, hD2.de.lst, hq, by rw [List.length_map, hD.de.len]; simp at dl ⊢; omega, fun L nL => ?_⟩
      have y3 : ∀ {o : HO}, Same H2 (upd H2 L o) := same_new nL
      have em : a.da.map V.ref ++ [V.ref p] = (a.da ++ [p]).map V.ref := by rw [List.map_append]; rfl
      rw [em]
      have hL : upd H2 L (.lst ((a.da ++ [p]).map V.ref)) L = some (.lst ((a.da ++ [p]).map V.ref)) := upd_same
      have hp3 := y3 (o := .lst ((a.da ++ [p]).map V.ref)) _ _ hp
      have y3' := y3 (o := .lst ((a.da ++ [p]).map V.ref))
      generalize upd H2 L (.lst ((a.da ++ [p]).map V.ref)) = H3 at y3' hL hp3 ⊢
      have x3 : Same H H3 := same_trans x1 (same_trans yy y3')
      have hD3 := hD.same x3
      have e3 := same_ex x3 hT
      have nL0 : H L = none := same_old x1 (same_old yy nL)
      have hdl : DeedsAt H3 L (a.da ++ [p]) (S.deeds ++ [((h, ("" : Str), m, true) : Deed)]) := by
        refine ⟨hL, by rw [List.length_append, List.length_append, hD.de.len]; rfl, fun i t d h1 h2 => ?_⟩
        by_cases c : i < S.deeds.length
        · rw [List.getElem?_append_left c] at h2
          rw [List.getElem?_append_left (by rw [hD.de.len]; exact c)] at h1
          exact hD3.de.at_ i t d h1 h2
        · rw [List.getElem?_append_right (by omega)] at h2
          rw [List.getElem?_append_right (by rw [hD.de.len]; omega), hD.de.len] at h1
          have z : i - S.deeds.length = 0 := by have := (List.getElem?_eq_some_iff.mp h2).1; simp at this; omega
          rw [z] at h1 h2
          cases h1
          cases h2
          exact hp3
      have ou : ∀ c ∈ a.ud :: a.ua, c ≠ a.sg ∧ c ≠ a.od ∧ c ≠ L := fun c hc => by
        obtain ⟨h1, h2, _, _⟩ := hD.dj c (List.mem_cons_of_mem _ hc)
        refine ⟨h1, h2, ?_⟩
        rcases List.mem_cons.mp hc with e | e
        · rw [e]; exact ne_of_none hD.ud nL0
        · obtain ⟨i, hi⟩ := List.mem_iff_getElem?.mp e
          obtain ⟨l, hl⟩ := getP (xs := S.undone) (i := i) (by rw [← hD.ul]; exact (List.getElem?_eq_some_iff.mp hi).1)
          exact ne_of_none (hD.un i c l hi hl) nL0
      refine ⟨tb, a.sg, a.od, L, a, S, S.signs, S.order, S.deeds ++ [((h, ("" : Str), m, true) : Deed)], _, rfl, e3.tab, hD3, hD3.sg, hD3.od, hdl, ou, hS, fun pg th sp H4 nth nsp kk t4 o4 hD4 => ?_, fun pg H4 x4 => kx pg H4 (e3.trans x4)⟩
      replace k := k pg
      have hu : h < S.undone.length := by rw [← hO.hn]; exact hh
      refine ⟨small0, fun n nn => ⟨_, rfl, tb, B, _, _, _, rfl, by rw [upd_ne (ne_of_none hD4.ob nn)]; exact hD4.ob, X.cls, X.nUndone, rfl, _, rfl, a.ud, _, _, h, rfl, rfl, by rw [upd_ne (ne_of_none hD4.ud nn)]; exact hD4.ud, ixN_nat (by rw [List.length_map, hD4.ul]; exact hu), ?_⟩⟩
      have y5 := same_new (o := .lst []) nn
      have hn5 : upd H4 n (.lst []) n = some (.lst (nV [])) := upd_same
      have n4 : ∀ {c : Addr} {o : HO}, H4 c = some o → n ≠ c := fun h z => by rw [← z, nn] at h; cases h
      generalize upd H4 n (.lst []) = H5 at y5 hn5 ⊢
      have hD5 := hD4.same y5
      have eset : (a.ua.map V.ref).set h (V.ref n) = (a.ua.set h n).map V.ref := by rw [List.map_set]
      have nua : n ∉ a.ua := fun z => by
        obtain ⟨i, hi⟩ := List.mem_iff_getElem?.mp z
        obtain ⟨l, hl⟩ := getP (xs := S.undone) (i := i) (by rw [← hD.ul]; exact (List.getElem?_eq_some_iff.mp hi).1)
        exact n4 (hD4.un i n l hi hl) rfl
      have hD6 := hD5.und0 (h := h) (l := []) hn5 hu ⟨n4 hD4.sp, n4 hD4.ud, nua⟩ ⟨n4 hD4.sg, n4 hD4.od, n4 hD4.th, n4 hD4.de.lst⟩
      dsimp only
      rw [eset]
      have n0 : H n = none := same_old x3 (o4 n nn)
      refine k _ _ (by rfl) (fun c o h m nn2 => ?_) (fun c hc => ?_) (tabs_lst (same_ex y5 t4).tab hD5.ud) (fun b hb => same_old x3 (o4 b (same_old y5 (upd_old hD5.ud hb)))) hD6
      · rw [upd_ne (fun z => nn2 (by rw [z]; exact .inr (.inr (.inr (.inr (.inr (.inr (.inl rfl))))))))]
        exact y5 _ _ (kk c o (x3 c o h) m fun z => nn2 (.inl z))
      · rcases ownT_eq hc with z | z
        · rcases setA_own z with z | z | z | z | z | z
          · exact .inl z
          · exact .inl (z ▸ .inr (.inl rfl))
          · exact .inl (z ▸ .inr (.inr (.inl rfl)))
          · exact .inr (z ▸ same_old x3 nth)
          · exact .inr (z ▸ nL0)
          · exact .inr (z ▸ same_old x3 nsp)
        · rcases List.mem_or_eq_of_mem_set z with z | z
          · exact .inl (.inr (.inr (.inr (.inr (.inr (.inr (.inr z)))))))
          · exact .inr (z ▸ n0)
end
end TG


namespace TG
open PySem PySem.Spec PyProof.Rows L2 Gx
/-! ### list of a text -/
def sgS (z : Str) : List Str := z.cps.toList.map fun c => (⟨#[c]⟩ : Str)
def rListS : List V → Hp → VK → Prop := fun xs H Q => ∃ z : Str, xs = [.str z] ∧ z.length ≤ sizeLine ∧ ∀ l, H l = none → Q (.ref l) (upd H l (.lst (sV (sgS z))))
theorem call_list_txt {X : Cx} (hc : X.calm = true) : CallR X (.type "list") rListS := by
  intro pins s σ H xs us Q I r h
  obtain ⟨z, rfl, hz, q⟩ := h
  obtain ⟨u, rfl, rx⟩ := vals1 r
  obtain ⟨t, rfl⟩ := rx
  refine call_list_str (I.ok.hd hc) z t (fun h' tk acc' c' hk hS hacc => ?_) hz
  refine ⟨.ref s.heap.objs.size, upd H s.heap.objs.size (.lst (sV (sgS z))), I.laid hk (Nat.le_refl _) (show ObjOk X.prog X.w _ _ _ (.lst (sV (sgS z))) from ⟨?_, acc'.toList, c', ?_, ?_⟩), rfl, q _ (I.hok.fresh (Nat.le_refl _))⟩
  · unfold sV sgS
    rw [List.length_map, List.length_map, Array.length_toList]
    exact hz
  · refine vals_of_at (by unfold sV sgS; rw [List.length_map, List.length_map, Array.length_toList, Array.length_toList, hacc.1]) fun j x w h1 h2 => ?_
    obtain ⟨c, u, hcz, rfl⟩ := hacc.2 j w (by rw [← Array.getElem?_toList]; exact h2)
    have e2 : (sV (sgS z))[j]? = some (.str ⟨#[c]⟩) := by
      unfold sV sgS
      rw [List.getElem?_map, List.getElem?_map, Array.getElem?_toList, hcz]
      rfl
    rw [e2] at h1
    cases h1
    exact ⟨u, rfl⟩
  · simpa using hS
/-! ### a table's begin -/
def startR (z : Str) (n : Nat) : TSt := ⟨sgS z ++ [("" : Str)], List.range (z.length + 1), List.replicate (z.length + 1) true, [], List.replicate n 0, List.replicate n []⟩
structure TStp (B : Addr) (H0 : Hp) (tb dx : Addr) (fs : List (Str × V)) (H : Hp) : Prop where
  ob : H tb = some (.ins B dx fs)
  kp : ∀ c o, H0 c = some o → c ≠ tb → H c = some o
  old : ∀ b, H b = none → H0 b = none
section
variable {B tb dx : Addr} {H0 H : Hp} {fs fs' : List (Str × V)}
theorem TStp.new (o : TStp B H0 tb dx fs H) {p : Addr} {x : HO} (n : H p = none) : TStp B H0 tb dx fs (upd H p x) :=
  ⟨by rw [upd_ne (ne_of_none o.ob n)]; exact o.ob, fun c u h m => by rw [upd_ne (ne_of_none (o.kp c u h m) n)]; exact o.kp c u h m, fun b hb => o.old b (upd_none hb).1⟩
theorem TStp.put (o : TStp B H0 tb dx fs H) : TStp B H0 tb dx fs' (upd H tb (.ins B dx fs')) :=
  ⟨upd_same, fun c u h m => by rw [upd_ne m]; exact o.kp c u h m, fun b hb => o.old b (upd_old o.ob hb)⟩
theorem TStp.lst (o : TStp B H0 tb dx fs H) {c : Addr} {xs : List V} (h : H c = some (.lst xs)) : c ≠ tb := fun e => by rw [e, o.ob] at h; cases h
end
section
variable {P : Program} {w : World} {K : PySem.W.Frag} {mg : Str → Option Value} {base : Heap} {cs : List (Addr × Addr)} {B : Addr}
def spTInit (K : PySem.W.Frag) (cs : List (Addr × Addr)) (B : Addr) : Sp := fun vs H Q _ => ∃ (tb p st dx : Addr) (as : List Addr) (rows : List (List Str)) (gap least : Int) (n : Nat), vs = [.ref tb, .ref p, .ref st, .int (n : Nat)] ∧ Tabs cs H ∧ H tb = some (.ins B dx []) ∧ PageAt K H p as rows ∧ PgOk rows ∧ StyleAt K H st gap least ∧ 1 ≤ n ∧ n ≤ 4 ∧
  ∀ (a : TA) (H' : Hp), a.st = st → (∀ c o, H c = some o → NT cs c o → c ≠ tb → H' c = some o) → (∀ c, ownT tb a c → c = tb ∨ H c = none) → Tabs cs H' → (∀ b, H' b = none → H b = none) → TabD B H' tb a (startR (pageT rows) n) → Q .non H'
abbrev nmTInit : List Str := ["self", "page", "style", "hands", "text", "hand"]
theorem sc_tinit : FnScope nmTInit ["self", "page", "style", "hands"] (defScope (mth nTable 0)) := ⟨rfl, rfl, rfl, by decide +kernel, rfl, by decide +kernel, by decide +kernel⟩
theorem ok_tinit {f g1 g2 g3 : Addr} {fd fd1 fd2 fd3 : FuncData} (T : Txt mg) (X : TabC K B) (eM : ∃ t, mg "MOST_HANDS" = some (.int 4 t)) (F : Fun K "__init__" "Table.__init__" (mth nTable 0) f fd)
    (G1 : FnOk P w K mg base CX0 12 g1 fd1 ["page"] (spWrit K cs)) (k1 : PySem.W.keepIn K (.ref g1) = true) (b1 : Binds K fd1 ["page"] []) (m1 : mg "written" = some (.ref g1))
    (G2 : FnOk P w K mg base CX0 2 g2 fd2 ["style"] (spStyle K)) (k2 : PySem.W.keepIn K (.ref g2) = true) (b2 : Binds K fd2 ["style"] []) (m2 : mg "check_style" = some (.ref g2))
    (G3 : FnOk P w K mg base CX0 1 g3 fd3 ["value", "low", "high"] spWholeB) (k3 : PySem.W.keepIn K (.ref g3) = true) (b3 : Binds K fd3 ["value", "low", "high"] []) (m3 : mg "is_whole" = some (.ref g3)) : FnOk P w K mg base CX0 13 f fd ["self", "page", "style", "hands"] (spTInit K cs B) := by
  refine F.ok sc_tinit (fun vs H Q E h => ?_) (fun cdv A outer s H vs Q E hr h => ?_)
  · obtain ⟨tb, p, st, dx, as, rows, gap, least, n, rfl, _⟩ := h
    rfl
  · obtain ⟨tb, p, st, dx, as, rows, gap, least, n, rfl, hT, hob, hP, hO, hS, n1, n4, k⟩ := h
    obtain ⟨tM, eM⟩ := eM
    have nd := sc_tinit.nd
    have r2 : Room 2 _ := hr.mono (by decide)
    have r1 : Room 1 _ := hr.mono (by decide)
    refine ⟨_, pss_cons (ps_set (i := 4) nd rfl (.inl rfl) (pe_call G1 hr (by rfl) m1 k1 b1 .nil pass0 (pa_cons (pv 1) pa_nil)))
      (pss_cons (ps_expr (pe_call G2 r2 (by rfl) m2 k2 b2 .nil pass0 (pa_cons (pv 2) pa_nil)))
      (pss_cons (ps_if (pt_not (pt_val (pe_call G3 r1 (by rfl) m3 k3 b3 .nil pass0 (pa_cons (pv 3) (pa_cons pe_int (pa_cons (pe_glob (v := .int 4) rfl eM ⟨_, rfl⟩) pa_nil)))))) (pss_one ps_never) pss_nil)
      (pss_cons (ps_fld (pv 0) (pv 2) rfl)
      (pss_cons (ps_fld (pv 0) (pe_op op_cat (pe_callTy (call_list_txt rfl) (by rfl) T.list (by decide +kernel) (pa_cons (pv 4) pa_nil)) (pe_lst (pa_cons pe_str pa_nil))) rfl)
      (pss_cons (ps_fld (pv 0) (pe_listRg rfl (by rfl) T.list (prg_1 (by rfl) T.range (pe_callB call_len_seq (by rfl) T.len PySem.boot_len (pa_cons (pe_fld (pv 0) rfl) pa_nil)))) rfl)
      (pss_cons (ps_fld (pv 0) (pe_op op_rep (pe_lst (pa_cons pe_bl pa_nil)) (pe_callB call_len_seq (by rfl) T.len PySem.boot_len (pa_cons (pe_fld (pv 0) rfl) pa_nil))) rfl)
      (pss_cons (ps_fld (pv 0) (pe_lst pa_nil) rfl)
      (pss_cons (ps_fld (pv 0) (pe_op op_rep (pe_lst (pa_cons pe_int pa_nil)) (pv 3)) rfl)
      (pss_one (ps_fld (pv 0) (pe_lc (own := [("hand", 5)]) (g := gName 5) (tt := tYes) rfl nd (pi_range1 (by rfl) T.range (pa_cons (pv 3) pa_nil)) (blkOk_by (own := [("hand", 5)]) (N := nmTInit) (sc := defScope (mth nTable 0)) (by decide +kernel))
        (fun _ _ _ _ _ => pg_name (i := 5) nd rfl (Or.inl rfl)) (fun _ _ _ _ _ => pts_nil) (fun _ _ _ _ _ => pe_lst pa_nil)) rfl)))))))))), ?_⟩
    have zl := pageT_len hO
    have szl : (9000 : Nat) < sizeLine := by decide
    refine ⟨_, rfl, p, as, rows, rfl, hT, hP, hO, fun H1 x1 => ⟨_, rfl, st, gap, least, rfl, ⟨x1.sqT hS.tup, hS.g0, hS.g1, hS.l0, hS.l1⟩, ?_⟩⟩
    generalize hz : pageT rows = z at k zl ⊢
    have hob1 : H1 tb = some (.ins B dx []) := x1.ext _ _ hob fun ps q => by cases q
    refine ⟨_, rfl, _, _, _, rfl, true, by rw [decide_eq_true ⟨by omega, by omega⟩], iteF ?_⟩
    have A1 : TStp B H1 tb dx [] H1 := ⟨hob1, fun c o h _ => h, fun b hb => hb⟩
    have l0 : ((sgS z).length : Nat) = z.length := by unfold sgS; rw [List.length_map, Array.length_toList]; rfl
    -- style
    refine ⟨_, rfl, _, rfl, tb, B, dx, _, rfl, hob1, X.cls, X.nStyle, by show 0 < 1000; decide, ?_⟩
    have A2 := A1.put (fs' := putF "style" (.ref st) [])
    generalize upd H1 tb (.ins B dx (putF "style" (.ref st) [])) = H2 at A2 ⊢
    -- signs
    refine ⟨_, rfl, z, rfl, by omega, fun q1 nq1 => ⟨by show 1 ≤ sizeLine; decide, fun q2 nq2 => ?_⟩⟩
    have A3 := (A2.new (x := .lst (sV (sgS z))) nq1).new (x := .lst [V.str ""]) nq2
    have hq1 := same_new (o := .lst [V.str ""]) nq2 _ _ (upd_same (H := H2) (a := q1) (o := .lst (sV (sgS z))))
    have hq2 : upd (upd H2 q1 (.lst (sV (sgS z)))) q2 (.lst [V.str ""]) q2 = some (.lst [V.str ""]) := upd_same
    show rCat _ _ (upd (upd H2 q1 (.lst (sV (sgS z)))) q2 (.lst [V.str ""])) _
    generalize upd (upd H2 q1 (.lst (sV (sgS z)))) q2 (.lst [V.str ""]) = H3 at A3 hq1 hq2 ⊢
    have sl : (sV (sgS z)).length = z.length := by unfold sV; rw [List.length_map, l0]
    refine ⟨q1, q2, _, _, rfl, rfl, hq1, hq2, by rw [sl]; show z.length + 1 ≤ sizeLine; omega, fun sg nsg => ?_⟩
    have es : sV (sgS z) ++ [V.str ""] = sV (sgS z ++ [("" : Str)]) := by unfold sV; rw [List.map_append]; rfl
    rw [es]
    have A4 := A3.new (x := .lst (sV (sgS z ++ [("" : Str)]))) nsg
    refine ⟨_, rfl, tb, B, dx, _, rfl, A4.ob, X.cls, X.nSigns, by show 1 < 1000; decide, ?_⟩
    have hsg4 : upd H3 sg (.lst (sV (sgS z ++ [("" : Str)]))) sg = some (.lst (sV (sgS z ++ [("" : Str)]))) := upd_same
    have osg := A3.old sg nsg
    generalize upd H3 sg (.lst (sV (sgS z ++ [("" : Str)]))) = H4 at A4 hsg4 ⊢
    have A5 := A4.put (fs' := putF "signs" (.ref sg) (putF "style" (.ref st) []))
    have hsg5 : upd H4 tb (.ins B dx (putF "signs" (.ref sg) (putF "style" (.ref st) []))) sg = some (.lst (sV (sgS z ++ [("" : Str)]))) := by rw [upd_ne (A4.lst hsg4)]; exact hsg4
    generalize upd H4 tb (.ins B dx (putF "signs" (.ref sg) (putF "style" (.ref st) []))) = H5 at A5 hsg5 ⊢
    clear A1 A2 A3 A4 hq1 hq2 hsg4
    have sl1 : (sV (sgS z ++ [("" : Str)])).length = z.length + 1 := by unfold sV; rw [List.length_map, List.length_append, l0]; rfl
    -- order
    refine ⟨_, rfl, tb, B, dx, _, _, rfl, A5.ob, X.cls, X.nSigns, rfl, sg, _, rfl, .inl (SqL.of hsg5), _, rfl, ?_, fun od nod => ?_⟩
    · rw [sl1]
      exact ⟨by omega, by omega, by omega, by omega, by omega⟩
    have eo : rgV 0 (((sV (sgS z ++ [("" : Str)])).length : Nat) : Int) = nV (List.range (z.length + 1)) := by
      rw [sl1]
      unfold rgV nV
      have : ((((z.length + 1 : Nat) : Int)) - 0).toNat = z.length + 1 := by omega
      rw [this]
      refine List.map_congr_left fun i _ => ?_
      rw [Int.zero_add]
    rw [eo]
    have A6 := A5.new (x := .lst (nV (List.range (z.length + 1)))) nod
    refine ⟨_, rfl, tb, B, dx, _, rfl, A6.ob, X.cls, X.nOrder, by show 2 < 1000; decide, ?_⟩
    have ood := A5.old od nod
    have hod6 : upd H5 od (.lst (nV (List.range (z.length + 1)))) od = some (.lst (nV (List.range (z.length + 1)))) := upd_same
    have hsg6 := same_new (o := .lst (nV (List.range (z.length + 1)))) nod _ _ hsg5
    generalize upd H5 od (.lst (nV (List.range (z.length + 1)))) = H6 at A6 hod6 hsg6 ⊢
    have A7 := A6.put (fs' := putF "order" (.ref od) (putF "signs" (.ref sg) (putF "style" (.ref st) [])))
    have pk : ∀ {c : Addr} {xs : List V}, H6 c = some (.lst xs) → upd H6 tb (.ins B dx (putF "order" (.ref od) (putF "signs" (.ref sg) (putF "style" (.ref st) [])))) c = some (.lst xs) := fun h => by rw [upd_ne (A6.lst h)]; exact h
    have hod7 := pk hod6
    have hsg7 := pk hsg6
    generalize upd H6 tb (.ins B dx (putF "order" (.ref od) (putF "signs" (.ref sg) (putF "style" (.ref st) [])))) = H7 at A7 hod7 hsg7 ⊢
    clear pk A5 A6 hod6 hsg6 hsg5
    -- there
    refine ⟨by show 1 ≤ sizeLine; decide, fun q3 nq3 => ⟨_, rfl, tb, B, dx, _, _, rfl, (A7.new nq3).ob, X.cls, X.nSigns, rfl, sg, _, rfl, .inl (SqL.of (same_new nq3 _ _ hsg7)), q3, _, _, rfl, rfl, upd_same, by omega, by rw [sl1]; omega, by rw [sl1]; show 1 * (((z.length + 1 : Nat) : Int)).toNat ≤ sizeLine; omega, fun th nth => ?_⟩⟩
    have et : (List.replicate (((sV (sgS z ++ [("" : Str)])).length : Nat) : Int).toNat [V.bl true]).flatten = bV (List.replicate (z.length + 1) true) := by
      rw [sl1]
      simp [bV]
    rw [et]
    have A8 := (A7.new (x := .lst [V.bl true]) nq3).new (x := .lst (bV (List.replicate (z.length + 1) true))) nth
    have ss8 : Same H7 (upd (upd H7 q3 (.lst [V.bl true])) th (.lst (bV (List.replicate (z.length + 1) true)))) := same_trans (same_new nq3) (same_new nth)
    have hth8 : upd (upd H7 q3 (.lst [V.bl true])) th (.lst (bV (List.replicate (z.length + 1) true))) th = some (.lst (bV (List.replicate (z.length + 1) true))) := upd_same
    have oth := A7.old th (same_old (same_new nq3) nth)
    refine ⟨_, rfl, tb, B, dx, _, rfl, A8.ob, X.cls, X.nThere, by show 3 < 1000; decide, ?_⟩
    have hod8 := ss8 _ _ hod7
    have hsg8 := ss8 _ _ hsg7
    generalize upd (upd H7 q3 (.lst [V.bl true])) th (.lst (bV (List.replicate (z.length + 1) true))) = H8 at A8 hth8 hod8 hsg8 ⊢
    have A9 := A8.put (fs' := putF "there" (.ref th) (putF "order" (.ref od) (putF "signs" (.ref sg) (putF "style" (.ref st) []))))
    have pk : ∀ {c : Addr} {xs : List V}, H8 c = some (.lst xs) → upd H8 tb (.ins B dx (putF "there" (.ref th) (putF "order" (.ref od) (putF "signs" (.ref sg) (putF "style" (.ref st) []))))) c = some (.lst xs) := fun h => by rw [upd_ne (A8.lst h)]; exact h
    have hod9 := pk hod8
    have hsg9 := pk hsg8
    have hth9 := pk hth8
    generalize upd H8 tb (.ins B dx (putF "there" (.ref th) (putF "order" (.ref od) (putF "signs" (.ref sg) (putF "style" (.ref st) []))))) = H9 at A9 hod9 hsg9 hth9 ⊢
    clear pk A7 A8 ss8 hod8 hsg8 hth8 hod7 hsg7
    -- deeds
    refine ⟨small0, fun dl ndl => ?_⟩
    have A10 := A9.new (x := .lst []) ndl
    have odl := A9.old dl ndl
    have hdl10 : upd H9 dl (.lst []) dl = some (.lst (([] : List Addr).map V.ref)) := upd_same
    have hod10 := same_new (o := .lst []) ndl _ _ hod9
    have hsg10 := same_new (o := .lst []) ndl _ _ hsg9
    have hth10 := same_new (o := .lst []) ndl _ _ hth9
    refine ⟨_, rfl, tb, B, dx, _, rfl, A10.ob, X.cls, X.nDeeds, by show 4 < 1000; decide, ?_⟩
    generalize upd H9 dl (.lst []) = H10 at A10 hdl10 hod10 hsg10 hth10 ⊢
    have A11 := A10.put (fs' := putF "deeds" (.ref dl) (putF "there" (.ref th) (putF "order" (.ref od) (putF "signs" (.ref sg) (putF "style" (.ref st) [])))))
    have pk : ∀ {c : Addr} {xs : List V}, H10 c = some (.lst xs) → upd H10 tb (.ins B dx (putF "deeds" (.ref dl) (putF "there" (.ref th) (putF "order" (.ref od) (putF "signs" (.ref sg) (putF "style" (.ref st) [])))))) c = some (.lst xs) := fun h => by rw [upd_ne (A10.lst h)]; exact h
    have hod11 := pk hod10
    have hsg11 := pk hsg10
    have hth11 := pk hth10
    have hdl11 := pk hdl10
    generalize upd H10 tb (.ins B dx (putF "deeds" (.ref dl) (putF "there" (.ref th) (putF "order" (.ref od) (putF "signs" (.ref sg) (putF "style" (.ref st) [])))))) = H11 at A11 hod11 hsg11 hth11 hdl11 ⊢
    clear pk A9 A10 hod10 hsg10 hth10 hdl10 hod9 hsg9 hth9
    -- spots
    refine ⟨by show 1 ≤ sizeLine; decide, fun q4 nq4 => ⟨_, rfl, q4, _, _, rfl, rfl, upd_same, by omega, by omega, by show 1 * (((n : Nat) : Int)).toNat ≤ sizeLine; omega, fun sp nsp => ?_⟩⟩
    have ep : (List.replicate (((n : Nat) : Int)).toNat [V.int 0]).flatten = nV (List.replicate n 0) := by simp [nV]
    rw [ep]
    have A12 := (A11.new (x := .lst [V.int 0]) nq4).new (x := .lst (nV (List.replicate n 0))) nsp
    have ss12 : Same H11 (upd (upd H11 q4 (.lst [V.int 0])) sp (.lst (nV (List.replicate n 0)))) := same_trans (same_new nq4) (same_new nsp)
    have hsp12 : upd (upd H11 q4 (.lst [V.int 0])) sp (.lst (nV (List.replicate n 0))) sp = some (.lst (nV (List.replicate n 0))) := upd_same
    have nsp11 : H11 sp = none := same_old (same_new nq4) nsp
    have osp := A11.old sp nsp11
    have spn : ∀ {c : Addr} {o : HO}, H11 c = some o → sp ≠ c := fun h e => by rw [← e, nsp11] at h; cases h
    have dsp : sp ≠ sg ∧ sp ≠ od ∧ sp ≠ th ∧ sp ≠ dl := ⟨spn hsg11, spn hod11, spn hth11, spn hdl11⟩
    refine ⟨_, rfl, tb, B, dx, _, rfl, A12.ob, X.cls, X.nSpots, by show 5 < 1000; decide, ?_⟩
    have hod12 := ss12 _ _ hod11
    have hsg12 := ss12 _ _ hsg11
    have hth12 := ss12 _ _ hth11
    have hdl12 := ss12 _ _ hdl11
    generalize upd (upd H11 q4 (.lst [V.int 0])) sp (.lst (nV (List.replicate n 0))) = H12 at A12 hsp12 hod12 hsg12 hth12 hdl12 ⊢
    have A13 := A12.put (fs' := putF "spots" (.ref sp) (putF "deeds" (.ref dl) (putF "there" (.ref th) (putF "order" (.ref od) (putF "signs" (.ref sg) (putF "style" (.ref st) []))))))
    have pk : ∀ {c : Addr} {xs : List V}, H12 c = some (.lst xs) → upd H12 tb (.ins B dx (putF "spots" (.ref sp) (putF "deeds" (.ref dl) (putF "there" (.ref th) (putF "order" (.ref od) (putF "signs" (.ref sg) (putF "style" (.ref st) []))))))) c = some (.lst xs) := fun h => by rw [upd_ne (A12.lst h)]; exact h
    have hod13 := pk hod12
    have hsg13 := pk hsg12
    have hth13 := pk hth12
    have hdl13 := pk hdl12
    have hsp13 := pk hsp12
    generalize upd H12 tb (.ins B dx (putF "spots" (.ref sp) (putF "deeds" (.ref dl) (putF "there" (.ref th) (putF "order" (.ref od) (putF "signs" (.ref sg) (putF "style" (.ref st) []))))))) = H13 at A13 hod13 hsg13 hth13 hdl13 hsp13 ⊢
    clear pk A11 A12 ss12 hod12 hsg12 hth12 hdl12 hsp12 hod11 hsg11 hth11 hdl11 spn nsp11
    -- undone
    refine ⟨_, rfl, _, rfl, by omega, by omega, fun D nD => ?_⟩
    refine lc_range (n := n) (fun i H' => Same H13 H' ∧ ∃ ua : List Addr, H' D = some (.lst (ua.map V.ref)) ∧ ua.length = i ∧ ua.Nodup ∧ ∀ u ∈ ua, H' u = some (.lst []) ∧ H13 u = none ∧ u ≠ D) ⟨same_new nD, [], upd_same, rfl, List.nodup_nil, fun u hu => by cases hu⟩ ?_ ?_
    · rintro i H' hi ⟨x, ua, w1, w2, w3, w4⟩
      refine ⟨rfl, small0, fun u nu => ?_⟩
      have nuD : u ≠ D := fun e => by rw [e, w1] at nu; cases nu
      have nu13 := same_old x nu
      have y := same_new (o := .lst []) nu
      refine ⟨_, y _ _ w1, by rw [List.length_map]; omega, same_upd (same_trans x y) nD, ua ++ [u], by rw [upd_same, List.map_append]; rfl, by rw [List.length_append, w2]; rfl, ?_, fun v hv => ?_⟩
      · rw [List.nodup_append]
        refine ⟨w3, by simp, fun a ha b hb => ?_⟩
        rw [List.mem_singleton] at hb
        rw [hb]
        exact fun e => by have := (w4 a ha).1; rw [e, nu] at this; cases this
      · rcases List.mem_append.mp hv with h | h
        · obtain ⟨a1, a2, a3⟩ := w4 v h
          exact ⟨by rw [upd_ne a3]; exact y _ _ a1, a2, a3⟩
        · rw [List.mem_singleton] at h
          subst h
          exact ⟨by rw [upd_ne nuD, upd_same], nu13, nuD⟩
    · rintro H14 ⟨x, ua, w1, w2, w3, w4⟩
      have A14 : TStp B H1 tb dx _ H14 := ⟨x _ _ A13.ob, fun c o h m => x _ _ (A13.kp c o h m), fun b hb => A13.old b (same_old x hb)⟩
      refine ⟨_, rfl, tb, B, dx, _, rfl, A14.ob, X.cls, X.nUndone, by show 6 < 1000; decide, ?_⟩
      have A15 := A14.put (fs' := putF "undone" (.ref D) (putF "spots" (.ref sp) (putF "deeds" (.ref dl) (putF "there" (.ref th) (putF "order" (.ref od) (putF "signs" (.ref sg) (putF "style" (.ref st) [])))))))
      have pk : ∀ {c : Addr} {xs : List V}, H14 c = some (.lst xs) → upd H14 tb (.ins B dx (putF "undone" (.ref D) (putF "spots" (.ref sp) (putF "deeds" (.ref dl) (putF "there" (.ref th) (putF "order" (.ref od) (putF "signs" (.ref sg) (putF "style" (.ref st) [])))))))) c = some (.lst xs) := fun h => by rw [upd_ne (A14.lst h)]; exact h
      have hod := pk (x _ _ hod13)
      have hsg := pk (x _ _ hsg13)
      have hth := pk (x _ _ hth13)
      have hdl := pk (x _ _ hdl13)
      have hsp := pk (x _ _ hsp13)
      have hD := pk w1
      have hua : ∀ u ∈ ua, _ := fun u hu => pk (w4 u hu).1
      generalize upd H14 tb (.ins B dx (putF "undone" (.ref D) (putF "spots" (.ref sp) (putF "deeds" (.ref dl) (putF "there" (.ref th) (putF "order" (.ref od) (putF "signs" (.ref sg) (putF "style" (.ref st) [])))))))) = H15 at A15 hod hsg hth hdl hsp hD hua ⊢
      have nn : ∀ {c d : Addr} {o : HO}, H13 d = none → H13 c = some o → d ≠ c := fun h1 h2 e => by rw [e, h2] at h1; cases h1
      have on : ∀ {b : Addr}, H13 b = none → H b = none := fun h => x1.old _ (A13.old _ h)
      refine k ⟨dx, st, sg, od, th, dl, sp, D, [], ua⟩ H15 rfl (fun c o h m n => A15.kp c o (x1.any h m) n) (fun c hc => ?_) ?_ (fun b hb => x1.old b (A15.old b hb)) ⟨A15.ob, hsg, hod, hth, ⟨hdl, rfl, fun i t d h _ => by cases h⟩, hsp, hD, ?_, fun i u l h1 h2 => ?_, ?_, fun c hc => ?_⟩
      · rcases hc with e | e | e | e | e | e | e | e
        · exact .inl e
        · exact .inr (e ▸ x1.old _ osg)
        · exact .inr (e ▸ x1.old _ ood)
        · exact .inr (e ▸ x1.old _ oth)
        · exact .inr (e ▸ x1.old _ odl)
        · exact .inr (e ▸ x1.old _ osp)
        · exact .inr (e ▸ on nD)
        · exact .inr (on (w4 c e).2.1)
      · intro q hq
        obtain ⟨ps', h1, h2⟩ := x1.tab q hq
        exact ⟨ps', A15.kp _ _ h1 (fun e => by rw [e, hob1] at h1; cases h1), h2⟩
      · show ua.length = (List.replicate n ([] : List Nat)).length
        rw [w2, List.length_replicate]
      · have h2 : (List.replicate n ([] : List Nat))[i]? = some l := h2
        have : l = [] := by
          rw [List.getElem?_replicate] at h2
          split at h2
          · cases h2; rfl
          · cases h2
        rw [this]
        exact hua u (List.mem_of_getElem? h1)
      · show (sp :: D :: ua).Nodup
        rw [List.nodup_cons, List.mem_cons, List.nodup_cons]
        refine ⟨fun e => ?_, fun e => (w4 D e).2.2 rfl, w3⟩
        rcases e with e | e
        · exact nn nD hsp13 e.symm
        · exact nn (w4 sp e).2.1 hsp13 rfl
      · have hc : c ∈ sp :: D :: ua := hc
        have g : H13 c = none → c ≠ sg ∧ c ≠ od ∧ c ≠ th ∧ c ≠ dl := fun h => ⟨nn h hsg13, nn h hod13, nn h hth13, nn h hdl13⟩
        rcases List.mem_cons.mp hc with e | e
        · rw [e]; exact dsp
        · rcases List.mem_cons.mp e with e | e
          · exact g (by rw [e]; exact nD)
          · exact g (w4 c e).2.1
end
end TG


namespace TG
open PySem PySem.Spec PyProof.Rows L2 NdefX GenW Gx Lv
/-! ### press -/
theorem vstr_ne' {a b : Str} : (!decide (V.str a = V.str b)) = decide (a ≠ b) := by simp
def MarkOk (z : Str) : Prop := z = tabS ∨ z = lineS ∨ ∃ c, z = ⟨#[c]⟩ ∧ SgOk c
theorem MarkOk.len {z : Str} (h : MarkOk z) : z.length = 1 := by
  rcases h with h | h | ⟨c, h, _⟩
  · rw [h]; decide +kernel
  · rw [h]; decide +kernel
  · rw [h]; rfl
def ordP (S : TSt) (h : Nat) : List Nat := S.order.take (S.order.idxOf (S.spots.getD h 0)) ++ [S.signs.length] ++ S.order.drop (S.order.idxOf (S.spots.getD h 0))
def deedP (S : TSt) (h : Nat) (z : Str) : List Deed := S.deeds ++ [((h, z, S.signs.length, true) : Deed)]
def pressR (S : TSt) (h : Nat) (z : Str) : TSt := { settleR S (S.signs ++ [z]) (ordP S h) (deedP S h z) with undone := S.undone.set h [] }
section
variable {P : Program} {w : World} {K : PySem.W.Frag} {mg : Str → Option Value} {base : Heap} {cs : List (Addr × Addr)} {B C G : Addr}
def spFilled (cs : List (Addr × Addr)) : Sp := fun vs H Q _ => ∃ (z : Str) (m : Int), vs = [.str z, .int m] ∧ Tabs cs H ∧ (z.length : Int) ≤ m ∧ z.length ≤ 1000 ∧ (∀ c ∈ z.cps.toList, SgOk c) ∧ z ≠ ("" : Str) ∧ ∀ H', Ex cs H H' → Q (.bl true) H'
theorem sc_filled : FnScope ["value", "most"] ["value", "most"] (defScope s_filled) := ⟨rfl, rfl, rfl, by decide +kernel, rfl, by decide +kernel, by decide +kernel⟩
theorem ok_filled {f g : Addr} {fd fdg : FuncData} (F : Fun K "is_filled" "is_filled" s_filled f fd)
    (W : FnOk P w K mg base CX0 5 g fdg ["value", "most"] (spText cs)) (kp : PySem.W.keepIn K (.ref g) = true) (bd : Binds K fdg ["value", "most"] []) (mgg : mg "is_text_of_signs" = some (.ref g)) : FnOk P w K mg base CX0 6 f fd ["value", "most"] (spFilled cs) := by
  refine F.ok sc_filled (fun vs H Q E h => ?_) (fun cdv A outer s H vs Q E hr h => ?_)
  · obtain ⟨z, m, rfl, _⟩ := h
    rfl
  · obtain ⟨z, m, rfl, hT, h1, h2, h3, hn, k⟩ := h
    refine ⟨_, pss_one (ps_ret (pe_and (pe_call W hr (by rfl) mgg kp bd .nil pass0 (pa_cons (pv 0) (pa_cons (pv 1) pa_nil))) (pe_one (pe_cmpR op_ne (pv 0) pe_str (nomark _))))), ?_⟩
    refine ⟨_, rfl, _, rfl, z, m, rfl, hT, h1, h2, h3, fun H1 x1 => ⟨true, rfl, iteT ⟨_, rfl, rfl, ?_⟩⟩⟩
    rw [vstr_ne', decide_eq_true hn]
    exact k H1 x1
def spMark (cs : List (Addr × Addr)) : Sp := fun vs H Q _ => ∃ z : Str, vs = [.str z] ∧ Tabs cs H ∧ MarkOk z ∧ ∀ H', Ex cs H H' → Q .non H'
theorem sc_cmark : FnScope ["sign"] ["sign"] (defScope s_check_mark) := ⟨rfl, rfl, rfl, by decide +kernel, rfl, by decide +kernel, by decide +kernel⟩
theorem ok_cmark {f g : Addr} {fd fdg : FuncData} (eT : ∃ t, mg "TAB" = some (.str tabS t)) (eL : ∃ t, mg "LINE_END" = some (.str lineS t)) (F : Fun K "check_mark" "check_mark" s_check_mark f fd)
    (W : FnOk P w K mg base CX0 6 g fdg ["value", "most"] (spFilled cs)) (kp : PySem.W.keepIn K (.ref g) = true) (bd : Binds K fdg ["value", "most"] []) (mgg : mg "is_filled" = some (.ref g)) : FnOk P w K mg base CX0 7 f fd ["sign"] (spMark cs) := by
  refine F.ok sc_cmark (fun vs H Q E h => ?_) (fun cdv A outer s H vs Q E hr h => ?_)
  · obtain ⟨z, rfl, _⟩ := h
    rfl
  · obtain ⟨z, rfl, hT, hz, k⟩ := h
    obtain ⟨tt, eT⟩ := eT
    obtain ⟨tl, eL⟩ := eL
    refine ⟨_, pss_one (ps_if (PW.pt (pw_and (pt_cmpR op_ne (pv 0) (pe_glob (v := .str tabS) rfl eT ⟨_, rfl⟩) (nomark _)) (pw_and (pt_cmpR op_ne (pv 0) (pe_glob (v := .str lineS) rfl eL ⟨_, rfl⟩) (nomark _)) (pw_and1 (pt_not (pt_val (pe_call W hr (by rfl) mgg kp bd .nil pass0 (pa_cons (pv 0) (pa_cons pe_int pa_nil)))))))))
      (pss_one ps_never) pss_nil), ?_⟩
    refine ⟨_, rfl, rfl, _, rfl, ?_⟩
    rw [vstr_ne']
    by_cases h : z = tabS
    · rw [decide_eq_false (by simp [h])]
      exact iteF (iteF (k H (Ex.refl hT)))
    · rw [decide_eq_true h]
      refine iteT ⟨_, rfl, rfl, _, rfl, ?_⟩
      rw [vstr_ne']
      by_cases h2 : z = lineS
      · rw [decide_eq_false (by simp [h2])]
        exact iteF (iteF (k H (Ex.refl hT)))
      · rw [decide_eq_true h2]
        obtain ⟨c, rfl, hc⟩ : ∃ c, z = ⟨#[c]⟩ ∧ SgOk c := by
          rcases hz with q | q | q
          · exact absurd q h
          · exact absurd q h2
          · exact q
        refine iteT ⟨_, rfl, _, _, rfl, hT, by show ((1 : Nat) : Int) ≤ 1; omega, by show 1 ≤ 1000; omega, fun d hd => ?_, fun e => ?_, fun H1 x1 => ⟨true, rfl, iteF (k H1 x1)⟩⟩
        · have hd : d ∈ [c] := hd
          rw [List.mem_singleton] at hd
          rw [hd]
          exact hc
        · have : (⟨#[c]⟩ : Str).length = ("" : Str).length := by rw [e]
          have e0 : ("" : Str).length = 0 := by decide +kernel
          rw [e0] at this
          cases this
def spPressT (cs : List (Addr × Addr)) (B TM : Addr) : Sp := fun vs H Q E => ∃ (tb : Addr) (h : Nat) (z : Str) (a : TA) (S : TSt), vs = [.ref tb, .int (h : Nat), .str z] ∧ Tabs cs H ∧ TabD B H tb a S ∧ TOk S ∧ h < S.spots.length ∧ MarkOk z ∧
  SetPre S (S.signs ++ [z]) (ordP S h) (deedP S h z) ∧
  (PgOk (pageR (S.signs ++ [z]) (ordP S h) (deedP S h z)) → Went cs B H tb a (pressR S h z) fun H' => Q .non H') ∧
  (¬ PgOk (pageR (S.signs ++ [z]) (ordP S h) (deedP S h z)) → ∀ H', Ex cs H H' → E (.ref TM) none H')
abbrev nmPressT : List Str := ["self", "hand", "sign", "mark", "order"]
theorem sc_press : FnScope nmPressT ["self", "hand", "sign"] (defScope (mth nTable 1)) := ⟨rfl, rfl, rfl, by decide +kernel, rfl, by decide +kernel, by decide +kernel⟩
theorem ok_pressT {TM : Addr} {f g1 g2 g3 : Addr} {fd fd1 fd2 fd3 : FuncData} (T : Txt mg) (X : TabC K B) (F : Fun K "press" "Table.press" (mth nTable 1) f fd)
    (M1 : Meth K B "check_hand" g1) (G1 : FnOk P w K mg base CX0 2 g1 fd1 ["self", "hand"] (spHand B)) (b1 : Binds K fd1 ["self", "hand"] [])
    (G2 : FnOk P w K mg base CX0 7 g2 fd2 ["sign"] (spMark cs)) (k2 : PySem.W.keepIn K (.ref g2) = true) (b2 : Binds K fd2 ["sign"] []) (m2 : mg "check_mark" = some (.ref g2))
    (M3 : Meth K B "settle" g3) (G3 : FnOk P w K mg base (L2.CX P w) 11 g3 fd3 ["self", "signs", "order", "deeds"] (spSettle cs B TM)) (b3 : Binds K fd3 ["self", "signs", "order", "deeds"] []) : FnOk P w K mg base (L2.CX P w) 12 f fd ["self", "hand", "sign"] (spPressT cs B TM) := by
  refine F.okX sc_press (fun vs H Q E h => ?_) (fun cdv A outer s H vs Q E hr h => ?_)
  · obtain ⟨tb, h, z, a, S, rfl, _⟩ := h
    rfl
  · obtain ⟨tb, h, z, a, S, rfl, hT, hD, hO, hh, hz, hS, k, kx⟩ := h
    have nd := sc_press.nd
    have r2 : Room 2 _ := hr.mono (by decide)
    have r7 : Room 7 _ := hr.mono (by decide)
    refine ⟨_, pss_cons (ps_expr (pe_meth (pv 0) X.cls M1 G1 r2 b1 .nil pass0 (pa_cons (pv 1) pa_nil)))
      (pss_cons (ps_expr (pe_call G2 r7 (by rfl) m2 k2 b2 .nil pass0 (pa_cons (pv 2) pa_nil)))
      (pss_cons (ps_set (i := 3) nd rfl (.inl rfl) (pe_callB call_len_seq (by rfl) T.len PySem.boot_len (pa_cons (pe_fld (pv 0) rfl) pa_nil)))
      (pss_cons (ps_set (i := 4) nd rfl (.inl rfl) (pe_callTy call_list_of (by rfl) T.list (by decide +kernel) (pa_cons (pe_fld (pv 0) rfl) pa_nil)))
      (pss_cons (ps_expr (pe_bm PySem.F.plainAttrs_list PySem.F.slot_list_insert PySem.F.type_list_insert mt_insert (pv 4) (pa_cons (pe_bm PySem.F.plainAttrs_list PySem.F.slot_list_index PySem.F.type_list_index mt_index (pv 4) (pa_cons (pe_ix ix_list (pe_fld (pv 0) rfl) (pv 1) (fun _ _ => rfl)) pa_nil)) (pa_cons (pv 3) pa_nil))))
      (pss_cons (ps_expr (pe_methS (pv 0) X.cls M3 G3 hr b3 (fun σ => passAt (takes_of rfl rfl rfl rfl) σ) (pa_cons (pe_op op_cat (pe_fld (pv 0) rfl) (pe_lst (pa_cons (pv 2) pa_nil))) (pa_cons (pv 4) (pa_cons (pe_op op_cat (pe_fld (pv 0) rfl) (pe_lst (pa_cons (pe_tup (pa_cons (pv 1) (pa_cons (pv 2) (pa_cons (pv 3) (pa_cons pe_bl pa_nil))))) pa_nil))) pa_nil)))))
      (pss_one (ps_asg (pe_lst pa_nil) (pg_sub (pe_fld (pv 0) rfl) (pv 1) set_list)))))))), ?_⟩
    refine ⟨_, rfl, tb, a.dx, _, rfl, hD.ob, rfl, _, rfl, tb, h, a, S, rfl, hD, hh, ?_⟩
    refine ⟨_, rfl, z, rfl, hT, hz, fun H1 e1 => ?_⟩
    have hD1 := hD.gw e1.ext
    refine ⟨_, rfl, tb, B, a.dx, _, _, rfl, hD1.ob, X.cls, X.nSigns, rfl, a.sg, _, rfl, .inl (SqL.of hD1.sg), ?_⟩
    refine ⟨_, rfl, tb, B, a.dx, _, _, rfl, hD1.ob, X.cls, X.nOrder, rfl, a.od, _, rfl, .inl (SqL.of hD1.od), fun O nO => ?_⟩
    have x2 : ∀ {o : HO}, Same H1 (upd H1 O o) := same_new nO
    have hs := getD_spot hh
    have mo : S.spots.getD h 0 ∈ S.order := by
      have := hO.sp _ (List.mem_of_getElem? hs)
      exact (List.mem_filter.mp this).1
    obtain ⟨g1', g2', g3'⟩ := idx_nat mo
    have ol := hO.ol
    have szl : (9000 : Nat) < sizeLine := by decide
    refine ⟨_, rfl, .inl ⟨rfl, _, SqL.of upd_same⟩, _, rfl, .inl ⟨rfl, _, SqL.of upd_same⟩, _, rfl, tb, B, a.dx, _, _, rfl, x2 _ _ hD1.ob, X.cls, X.nSpots, rfl, _, rfl, a.sp, _, _, _, rfl, rfl, SqL.of (x2 _ _ hD1.sp), atI_nat (nV_get hs), O, nV S.order, .int (S.spots.getD h 0 : Nat), S.order.idxOf (S.spots.getD h 0), .int (S.spots.getD h 0 : Nat), rfl, rfl, SqL.of upd_same, rfl, ints_flat _, nV_get g1', by simp [eqV], ints_no g3', _, rfl, O, nV S.order, _, _, rfl, rfl, upd_same, by rw [nV_len]; omega, by omega, by omega, ?_⟩
    rw [upd_upd]
    have eo : (nV S.order).take ((S.order.idxOf (S.spots.getD h 0) : Nat) : Int).toNat ++ [V.int (((sV S.signs).length : Nat) : Int)] ++ (nV S.order).drop ((S.order.idxOf (S.spots.getD h 0) : Nat) : Int).toNat = nV (ordP S h) := by
      unfold ordP nV sV
      rw [Int.toNat_natCast, List.map_append, List.map_append, List.map_take, List.map_drop, List.length_map]
      rfl
    rw [eo]
    have hO2 : upd H1 O (.lst (nV (ordP S h))) O = some (.lst (nV (ordP S h))) := upd_same
    have x2 := x2 (o := .lst (nV (ordP S h)))
    generalize upd H1 O (.lst (nV (ordP S h))) = H2 at x2 hO2 ⊢
    have hD2 := hD1.same x2
    have sm := hS.many
    rw [List.length_append] at sm
    have sm : S.signs.length + 1 ≤ 9000 := sm
    have dl : S.deeds.length + 1 ≤ 9000 := by have := hS.dn; unfold deedP at this; rw [List.length_append] at this; exact this
    refine ⟨_, rfl, tb, a.dx, _, rfl, hD2.ob, rfl, _, rfl, tb, B, a.dx, _, _, rfl, hD2.ob, X.cls, X.nSigns, rfl, _, rfl, by show 1 ≤ sizeLine; decide, fun q nq => ⟨a.sg, q, _, _, rfl, rfl, same_new nq _ _ hD2.sg, upd_same, by rw [List.length_map]; show S.signs.length + 1 ≤ sizeLine; omega, fun L1 nL1 => ?_⟩⟩
    have es : sV S.signs ++ [V.str z] = sV (S.signs ++ [z]) := by simp [sV]
    rw [es]
    have hL1 : upd (upd H2 q (.lst [V.str z])) L1 (.lst (sV (S.signs ++ [z]))) L1 = some (.lst (sV (S.signs ++ [z]))) := upd_same
    have x3 := same_trans (same_new (o := .lst [V.str z]) nq) (same_new (o := .lst (sV (S.signs ++ [z]))) nL1)
    have nL10 : H2 L1 = none := same_old (same_new nq) nL1
    generalize upd (upd H2 q (.lst [V.str z])) L1 (.lst (sV (S.signs ++ [z]))) = H3 at x3 hL1 ⊢
    have hD3 := hD2.same x3
    refine ⟨_, rfl, _, rfl, tb, B, a.dx, _, _, rfl, hD3.ob, X.cls, X.nDeeds, rfl, _, rfl, _, rfl, _, rfl, by show 4 ≤ sizeLine; decide, fun p np => ⟨by show 1 ≤ sizeLine; decide, fun q2 nq2 => ?_⟩⟩
    have el : (((sV S.signs).length : Nat) : Int) = ((S.signs.length : Nat) : Int) := by unfold sV; rw [List.length_map]
    have y1 := same_new (o := .tup [.int (h : Nat), .str z, .int ((sV S.signs).length : Nat), .bl true]) np
    have y2 := same_new (o := .lst [.ref p]) nq2
    have hq2 : upd (upd H3 p (.tup [.int (h : Nat), .str z, .int ((sV S.signs).length : Nat), .bl true])) q2 (.lst [.ref p]) q2 = some (.lst [.ref p]) := upd_same
    have hp : upd (upd H3 p (.tup [.int (h : Nat), .str z, .int ((sV S.signs).length : Nat), .bl true])) q2 (.lst [.ref p]) p = some (.tup (dV (h, z, S.signs.length, true))) := by
      rw [y2 _ _ (upd_same (H := H3) (a := p)), el]
      rfl
    have yy := same_trans y1 y2
    show rCat _ _ (upd (upd H3 p (.tup [.int (h : Nat), .str z, .int ((sV S.signs).length : Nat), .bl true])) q2 (.lst [.ref p])) _
    generalize upd (upd H3 p (.tup [.int (h : Nat), .str z, .int ((sV S.signs).length : Nat), .bl true])) q2 (.lst [.ref p]) = H4 at yy hq2 hp ⊢
    clear y1 y2
    have hD4 := hD3.same yy
    refine ⟨a.dl, q2, _, _, rfl, rfl, hD4.de.lst, hq2, by rw [List.length_map, hD.de.len]; show S.deeds.length + 1 ≤ sizeLine; omega, fun L3 nL3 => ?_⟩
    have em : a.da.map V.ref ++ [V.ref p] = (a.da ++ [p]).map V.ref := by rw [List.map_append]; rfl
    rw [em]
    have y3 := same_new (o := .lst ((a.da ++ [p]).map V.ref)) nL3
    have hL3 : upd H4 L3 (.lst ((a.da ++ [p]).map V.ref)) L3 = some (.lst ((a.da ++ [p]).map V.ref)) := upd_same
    have hp3 := y3 _ _ hp
    generalize upd H4 L3 (.lst ((a.da ++ [p]).map V.ref)) = H5 at y3 hL3 hp3 ⊢
    have x15 : Same H1 H5 := same_trans x2 (same_trans x3 (same_trans yy y3))
    have e5 := e1.trans (same_ex x15 e1.tab)
    have hD5 := hD1.same x15
    have nO1 : H1 O = none := nO
    have nL11 : H1 L1 = none := same_old x2 nL10
    have nL31 : H1 L3 = none := same_old x2 (same_old x3 (same_old yy nL3))
    have hO5 := y3 _ _ (yy _ _ (x3 _ _ hO2))
    have hL15 := y3 _ _ (yy _ _ hL1)
    have hdl : DeedsAt H5 L3 (a.da ++ [p]) (deedP S h z) := by
      refine ⟨hL3, by unfold deedP; rw [List.length_append, List.length_append, hD.de.len]; rfl, fun i t d h1 h2 => ?_⟩
      unfold deedP at h2
      by_cases c : i < S.deeds.length
      · rw [List.getElem?_append_left c] at h2
        rw [List.getElem?_append_left (by rw [hD.de.len]; exact c)] at h1
        exact hD5.de.at_ i t d h1 h2
      · rw [List.getElem?_append_right (by omega)] at h2
        rw [List.getElem?_append_right (by rw [hD.de.len]; omega), hD.de.len] at h1
        have z : i - S.deeds.length = 0 := by have := (List.getElem?_eq_some_iff.mp h2).1; simp at this; omega
        rw [z] at h1 h2
        cases h1
        cases h2
        exact hp3
    have ou : ∀ c ∈ a.ud :: a.ua, c ≠ L1 ∧ c ≠ O ∧ c ≠ L3 := fun c hc => by
      have : ∃ o, H1 c = some o := by
        rcases List.mem_cons.mp hc with e | e
        · exact ⟨_, e ▸ hD1.ud⟩
        · obtain ⟨i, hi⟩ := List.mem_iff_getElem?.mp e
          obtain ⟨l, hl⟩ := getP (xs := S.undone) (i := i) (by rw [← hD.ul]; exact (List.getElem?_eq_some_iff.mp hi).1)
          exact ⟨_, hD1.un i c l hi hl⟩
      obtain ⟨o, ho⟩ := this
      exact ⟨ne_of_none ho nL11, ne_of_none ho nO1, ne_of_none ho nL31⟩
    refine ⟨tb, L1, O, L3, a, S, S.signs ++ [z], ordP S h, deedP S h z, _, rfl, e5.tab, hD5, hL15, hO5, hdl, ou, hS, fun pg th sp H6 nth nsp kk t6 o6 hD6 => ?_, fun pg H6 x6 => kx pg H6 (e5.trans x6)⟩
    replace k := k pg
    have hu : h < S.undone.length := by rw [← hO.hn]; exact hh
    refine ⟨small0, fun n nn => ⟨_, rfl, tb, B, _, _, _, rfl, by rw [upd_ne (ne_of_none hD6.ob nn)]; exact hD6.ob, X.cls, X.nUndone, rfl, _, rfl, a.ud, _, _, h, rfl, rfl, by rw [upd_ne (ne_of_none hD6.ud nn)]; exact hD6.ud, ixN_nat (by rw [List.length_map, hD6.ul]; exact hu), ?_⟩⟩
    have y7 := same_new (o := .lst []) nn
    have hn7 : upd H6 n (.lst []) n = some (.lst (nV [])) := upd_same
    have n6 : ∀ {c : Addr} {o : HO}, H6 c = some o → n ≠ c := fun h z => by rw [← z, nn] at h; cases h
    generalize upd H6 n (.lst []) = H7 at y7 hn7 ⊢
    have hD7 := hD6.same y7
    have eset : (a.ua.map V.ref).set h (V.ref n) = (a.ua.set h n).map V.ref := by rw [List.map_set]
    have nua : n ∉ a.ua := fun z => by
      obtain ⟨i, hi⟩ := List.mem_iff_getElem?.mp z
      obtain ⟨l, hl⟩ := getP (xs := S.undone) (i := i) (by rw [← hD.ul]; exact (List.getElem?_eq_some_iff.mp hi).1)
      exact n6 (hD6.un i n l hi hl) rfl
    have hD8 := hD7.und0 (h := h) (l := []) hn7 hu ⟨n6 hD6.sp, n6 hD6.ud, nua⟩ ⟨n6 hD6.sg, n6 hD6.od, n6 hD6.th, n6 hD6.de.lst⟩
    dsimp only
    rw [eset]
    have n0 : H n = none := e5.old _ (o6 n nn)
    have old1 : ∀ {c : Addr}, H1 c = none → H c = none := fun z => e1.old _ z
    refine k _ _ (by rfl) (fun c o h m nn2 => ?_) (fun c hc => ?_) (tabs_lst (same_ex y7 t6).tab hD7.ud) (fun b hb => e5.old b (o6 b (same_old y7 (upd_old hD7.ud hb)))) hD8
    · rw [upd_ne (fun z => nn2 (by rw [z]; exact .inr (.inr (.inr (.inr (.inr (.inr (.inl rfl))))))))]
      exact y7 _ _ (kk c o (e5.any h m) m fun z => nn2 (.inl z))
    · rcases ownT_eq hc with z | z
      · rcases setA_own z with z | z | z | z | z | z
        · exact .inl z
        · exact .inr (z ▸ old1 nL11)
        · exact .inr (z ▸ old1 nO1)
        · exact .inr (z ▸ e5.old _ nth)
        · exact .inr (z ▸ old1 nL31)
        · exact .inr (z ▸ e5.old _ nsp)
      · rcases List.mem_or_eq_of_mem_set z with z | z
        · exact .inl (.inr (.inr (.inr (.inr (.inr (.inr (.inr z)))))))
        · exact .inr (z ▸ n0)
end
end TG


namespace TG
open PySem PySem.Spec PyProof.Rows L2 NdefX GenW Gx Lv
/-! ### list.count, flat items -/
theorem cntU {y : V} : ∀ {ys : List V} {its : List Value}, Vals ys its → ys.all flatV = true → its.countP (eqU y) = ys.countP (fun z => eqV z y)
  | [], _, .nil, _ => rfl
  | z :: ys, _, .cons r t, f => by
    rw [List.all_cons, Bool.and_eq_true] at f
    rw [List.countP_cons, List.countP_cons, eqU_of r f.1, cntU t f.2]
def rCnt (K : PySem.W.Frag) : V → List V → Hp → VK → Prop := fun x xs H Q => ∃ (a : Addr) (ys : List V) (y : V), x = .ref a ∧ xs = [y] ∧ SqL K H a ys ∧ flatV y = true ∧ ys.all flatV = true ∧ Q (.int (ys.countP (fun z => eqV z y) : Nat)) H
theorem mt_cnt {X : Cx} : MtR X "list.count" (rCnt X.K) := by
  intro pins s σ H x xs v us Q I rx rxs h
  obtain ⟨a, ys, y, rfl, rfl, hs, fy, fys, q⟩ := h
  cases rx
  obtain ⟨u, rfl, ru⟩ := rxs.one
  obtain ⟨its, rv, ⟨⟨cls, dd, data, sl⟩, n, ho, hc, hdn, hd⟩, hlen⟩ := I.list hs
  simp only at hc hd
  subst hc hd
  have ec : its.toArray.toList.countP (eqU y) = ys.countP (fun z => eqV z y) := cntU rv fys
  refine call_meets PySem.F.slot_list_count ⟨_, ho, rfl⟩ PySem.F.entry_list_count (PySem.F.args_list_count_2 _ _) (SeqAt.list_countAt a its.toArray n dd sl u (eqU y)) ⟨ho, fun w hw => mem_eqAt ru fy rv fys w (by simpa using hw), ?_⟩
  refine ⟨.int (ys.countP (fun z => eqV z y) : Nat), H, I.tok _, ⟨s.toks, ?_⟩, q⟩
  rw [← ec]
/-! ### isinstance and fields of a caught error -/
/-- its dict, if it has one, is told of -/
def XdAt (H : Hp) (d : Option Addr) : Prop := d = none ∨ ∃ dd fs, d = some dd ∧ H dd = some (.xd fs)
def rIsX (K : PySem.W.Frag) (cls : Value) (d : Option Addr) (a : Addr) : List V → Hp → VK → Prop := fun xs H Q => ∃ (c : V) (cv : Value) (b : Bool) (D : Addr), xs = [.ref a, c] ∧ cls = .ref D ∧ ExcC K D ∧ (∀ u, RelV c u → u = cv) ∧ PySem.W.kitOne K (.ref D) cv = some b ∧ XdAt H d ∧ Q (.bl b) H
theorem isCls_of {K : PySem.W.Frag} {D : Addr} (h : PySem.W.hasDictIn K D = true) : (PySem.W.clsIn K D).isSome = true := by
  obtain ⟨cd, hc, _⟩ := PySem.W.any_some h
  rw [hc]
  rfl
section
variable {X : Cx} {a : Addr} {oe : Obj} {cls : Value} {d : Option Addr} {pn : List (Addr × Obj)}
theorem call_isX (hz : Zc cls d oe) (hf : ∃ vs, oe.data = .fields vs) : CallR (X.suite a ((a, oe) :: pn)) (.builtin "isinstance") (rIsX X.K cls d a) := by
  intro pins s σ H xs us Q I r h
  obtain ⟨c, cv, b, D, rfl, rfl, C, hcv, e, hd, q⟩ := h
  cases r with
  | cons rx rr =>
    cases rr with
    | cons rt rr =>
      cases rr
      cases rx
      have ec := hcv _ rt
      subst ec
      obtain ⟨hget, _⟩ := I.pin (a, oe) (List.mem_append.mpr (.inl List.mem_cons_self))
      obtain ⟨vs, hv⟩ := hf
      have nc : PySem.W.notCls oe = true := by
        unfold PySem.W.notCls
        rw [hv] <;> rfl
      have fin : ∀ tk, EP (X.suite a ((a, oe) :: pn)) pins σ Q (.bool b) { s with toks := tk } := fun tk => ⟨.bl b, H, I.kept (t' := tk) fun _ _ z => z, rfl, q⟩
      rcases hd with rfl | ⟨dd, fs, rfl, hdd⟩
      · have J : PySem.W.InstAt s.heap a oe D none := by
          obtain ⟨h1, h2⟩ := hz
          refine ⟨hget, h1, nc, ?_⟩
          rw [h2]
          trivial
        exact PySem.W.kia_one (PySem.W.kitx_exc (isCls_of C.hd) C.hg C.hk C.hs C.ha C.hn C.ht C.hm) I.kIn J e (fun z => nomatch z) fin
      · have hx : ObjOk X.prog X.w H s.heap dd (.xd fs) := I.hok dd _ hdd
        obtain ⟨mA, hns, _⟩ := hx
        obtain ⟨od, ho, _⟩ := lookIn_ns hns
        have J : PySem.W.InstAt s.heap a oe D (some od) := ⟨hget, hz.1, nc, by rw [hz.2]; exact ho⟩
        exact PySem.W.kia_one (PySem.W.kitx_exc (isCls_of C.hd) C.hg C.hk C.hs C.ha C.hn C.ht C.hm) I.kIn J e (fun z => nomatch z) fin
def tXfX (K : PySem.W.Frag) (a : Addr) (cls : Value) (d : Option Addr) (f : Str) (te : TE) : TE := fun σ H Q => ∃ C : Addr, XfC K C ∧ PySem.W.findIn K (.ref C) f = some none ∧ tXf a cls d C f te σ H Q
theorem pe_xfX {e : Expr} {te : TE} {pos : Pos} {n : Str} (hz : Zc cls d oe) (hf : ∃ vs, oe.data = .fields vs) (he : PE (X.suite a ((a, oe) :: pn)) e te) (hb : attributeBase e n X.env (eval e X.env) = eval e X.env := by rfl) :
    PE (X.suite a ((a, oe) :: pn)) (.Attribute e n pos) (tXfX X.K a cls d n te) := by
  refine ⟨fun pins s σ H Q I h => ?_⟩
  obtain ⟨C, T, hno, h⟩ := h
  exact (pe_xf T hno hz hf he hb).run pins s σ H Q I h
end
/-! ### rules for an except suite, whose readings don't speak of the error's object -/
section
variable {X : Cx} {a : Addr} {l : List (Addr × Obj)}
theorem ix_listU : IxR (X.suite a l) (rIxL X.K) := ix_list
theorem op_inU : OpR (X.suite a l) (compareOp .In) (rIn X.K false) := op_in_seq
theorem mt_cntU : MtR (X.suite a l) "list.count" (rCnt X.K) := mt_cnt
theorem mt_indexU : MtR (X.suite a l) "list.index" (rIndex X.K) := mt_index
theorem pe_bmU {T name id : String} {r : V → List V → Hp → VK → Prop} {o e : Expr} {es : List Expr} {to : TE} {t : L2.TA} {apos cpos : Pos} (pa : PlainAttrs T) (slot : Slot T (name : Str) id) (hty : typeOf (.builtin id) = pure (.type "method_descriptor")) (hm : MtR (X.suite a l) id r)
    (ho : PE (X.suite a l) o to) (ha : PA (X.suite a l) (e :: es) t) (hbase : attributeBase o (name : Str) X.env (eval o X.env) = eval o X.env := by rfl)
    (hfew : ((backTo cpos (starEach (e :: es) X.env)).all (fun x => !x.1) && (backToKw cpos (keywordEach [] X.env)).all (fun x => x.1.isSome) && decide ((e :: es).length + ([] : List Keyword).length + (if ([] : List Keyword).isEmpty then 0 else 1) < 30)) = true := by rfl)
    (hline : (apos.endLine == cpos.line) = true := by rfl) (hs : starEach (e :: es) X.env = (false, eval e X.env) :: starEach es X.env := by rfl) (hplain : (backTo cpos (starEach es X.env)).any (·.1) = false := by rfl) :
    PE (X.suite a l) (.Call (.Attribute o (name : Str) apos) (e :: es) [] cpos) (tBM X.K T r to t) := pe_bm pa slot hty hm ho ha hbase hfew hline hs hplain
end
theorem xfC_of {K : PySem.W.Frag} {C : Addr} (h : ExcC K C) : XfC K C := ⟨h.hg, h.hk, h.hs, h.hd⟩
/-! ### a call by name of a lambda without parameters, in a try -/
def tCallX (P : Program) (w : World) (K : PySem.W.Frag) (mg : Str → Option Value) (base : Heap) (k i : Nat) (W : WX) : TE := fun σ H Q => ∃ (f : Addr) (F : NF) (e : Expr) (sp : Sp), σ[i]? = some (some (.ref f)) ∧ H f = some (FnL f F e) ∧ H F.c = some (LamX.CodeO F.c F.qual) ∧ LOkX P w K mg base k f F e sp ∧ sp [] H Q (WE W σ)
theorem pe_callX {X : Cx} {W : WX} {i k : Nat} {x : Str} {p pos : Pos} {P : Program} {w : World} {K : PySem.W.Frag} {mg : Str → Option Value} {base : Heap} (eX : X.prog = P ∧ X.w = w ∧ X.K = K ∧ X.mg = mg ∧ X.base = base) (hr : Room k X.A) (tk : Takes X W) (hN : X.N[i]? = some x) (hv : Vis X.env.scope x) (hd : (x == ("__debug__" : Str)) = false := by decide) (hcd : (x == ("__classdict__" : Str)) = false := by decide) :
    PE X (.Call (.Name x p) [] [] pos) (tCallX P w K mg base k i W) := by
  obtain ⟨rfl, rfl, rfl, rfl, rfl⟩ := eX
  refine ⟨fun pins s σ H Q I h => ?_⟩
  obtain ⟨f, F, b, sp, hs, hf, hc, L, q⟩ := h
  refine wpAny_Call_Name_kw (thn ((pe_var (pos := p) hN hv hd hcd).run pins s σ H (fun v H1 => v = .ref f ∧ H1 = H) I ⟨.ref f, hs, rfl, rfl⟩) fun u s1 ⟨v, H1, I1, r1, q1⟩ => ?_)
  obtain ⟨ev, eH⟩ := q1
  subst ev eH
  obtain rfl : u = Value.ref f := r1
  have at_ : PySem.W.FnAt f s1.heap := by
    obtain ⟨od, sl, pm, ctv, ho⟩ := fnL_at I1.hok hf
    exact ⟨_, od, _, sl, ho⟩
  refine PySem.W.callWith_F0 (first := []) at_ ?_
  refine wpAny_call (codeAny_mono (L.run X.A X.stack s1 H1 Q (WE W σ) hr I1.env0 hf hc q) fun r' s' hq => ?_)
  cases r' with
  | error er => exact passAt tk σ pins H1 s1 er s' I1 hq
  | ok fl =>
    cases fl with
    | ret u => exact I1.after hq
    | next => exact False.elim hq
    | brk => exact False.elim hq
    | cont => exact False.elim hq
end TG


namespace TG
open PySem PySem.Spec PyProof.Rows L2 NdefX GenW Gx Lv
/-! ### cells told of, and what a lambda caught -/
theorem caught_of {cells : List (Str × Addr)} {N names fr : List Str} {σ : L2.St} {cl : List (Addr × Obj)} {F : NF} {ws : List (Option V)} {H : Hp} (T : ToldC cells N names σ cl) (hF : F.cl = cloFrom cells F.scope.names [])
    (hfr : ∀ y, (y, NameKind.free) ∈ F.scope.names → y ∈ fr) (hrf : ∀ y ∈ fr, (y, NameKind.free) ∈ F.scope.names) (hsub : ∀ y ∈ fr, y ∈ names) (len : ws.length = fr.length) (told : ∀ c o, cl.lookup c = some o → H c = some (cellF o))
    (hw : ∀ (i : Nat) (y : Str) (v : V), fr[i]? = some y → ws[i]? = some (some v) → ∃ j : Nat, N[j]? = some y ∧ σ[j]? = some (some v)) : Caught F fr ws cl H := by
  have at_ : ∀ y c, F.cl.lookup y = some c → y ∈ fr ∧ ∃ o v, cells.lookup y = some c ∧ cl.lookup c = some o ∧ o.data = .cell v := fun y c e => by
    rw [hF] at e
    rcases cloFrom_mem (PySem.mem_of_lookup e) with z | ⟨z, hc⟩
    · cases z
    · have hy := hfr y z
      obtain ⟨c', o, v, e1, e2, e3⟩ := T.all y (hsub y hy)
      rw [e1] at hc
      have hc : c = c' := hc
      subst hc
      exact ⟨hy, o, v, e1, e2, e3⟩
  refine ⟨len, told, fun y c e => ?_, fun x y c e1 e2 => ?_, fun i y e => ?_⟩
  · obtain ⟨_, o, v, _, h2, h3⟩ := at_ y c e
    exact ⟨o, v, h2, h3⟩
  · obtain ⟨_, _, _, h1, _⟩ := at_ x c e1
    obtain ⟨_, _, _, h2, _⟩ := at_ y c e2
    exact T.inj x y c h1 h2
  · have hy : y ∈ fr := List.mem_of_getElem? e
    have hm := cloFrom_has (cells := cells) (acc := []) (hrf y hy)
    have hs : ∃ c, F.cl.lookup y = some c := by
      rw [hF]
      cases q : (cloFrom cells F.scope.names []).lookup y with
      | some c => exact ⟨c, rfl⟩
      | none =>
        have := List.lookup_eq_none_iff.mp q _ hm
        simp at this
    obtain ⟨c, hc⟩ := hs
    obtain ⟨_, o, v0, h1, h2, h3⟩ := at_ y c hc
    refine ⟨c, hc, fun v hv => ?_⟩
    obtain ⟨j, hj1, hj2⟩ := hw i y v e hv
    obtain ⟨u, e1, e2⟩ := T.val y (hsub y hy) c o h1 h2 j v hj1 hj2
    exact ⟨o, u, h2, e1, e2⟩
section
variable {cs : List (Addr × Addr)} {H H' : Hp} {cl : List (Addr × Obj)}
theorem add_at (un : ∀ c o, cl.lookup c = some o → H c = none) {b : Addr} {o : HO} (h : H b = some o) : addC H cl b = some o := by
  cases r : cl.lookup b with
  | some u => rw [un b u r] at h; cases h
  | none => rw [addC_out r]; exact h
theorem del_at (un : ∀ c o, cl.lookup c = some o → H c = none) {b : Addr} {o : HO} (h : H b = some o) : cl.lookup b = none := by
  cases r : cl.lookup b with
  | some u => rw [un b u r] at h; cases h
  | none => rfl
theorem add_none {D : Addr} (h : addC H cl D = none) : cl.lookup D = none ∧ H D = none := by
  cases r : cl.lookup D with
  | some u => rw [addC_in r] at h; cases h
  | none => rw [addC_out r] at h; exact ⟨rfl, h⟩
theorem del_upd_add (un : ∀ c o, cl.lookup c = some o → H c = none) {D : Addr} {o : HO} (hD : cl.lookup D = none) : delC (upd (addC H cl) D o) cl = upd H D o := by
  funext b
  cases r : cl.lookup b with
  | some u =>
    rw [delC_in r, upd_ne (fun z => by rw [z, hD] at r; cases r)]
    exact (un b u r).symm
  | none =>
    rw [delC_out r]
    by_cases hb : b = D
    · rw [hb, upd_same, upd_same]
    · rw [upd_ne hb, upd_ne hb, addC_out r]
theorem tabs_add (un : ∀ c o, cl.lookup c = some o → H c = none) (t : Tabs cs H) : Tabs cs (addC H cl) := fun p hp => by
  obtain ⟨ps, h1, h2⟩ := t p hp
  exact ⟨ps, add_at un h1, h2⟩
/-- what came of a heap with the cells told, the cells untold again -/
theorem ex_del (un : ∀ c o, cl.lookup c = some o → H c = none) (told : ∀ c o, cl.lookup c = some o → H' c = some (cellF o)) (x : Ex cs (addC H cl) H') : Ex cs H (delC H' cl) := by
  refine ⟨fun b o h n => ?_, fun p hp => ?_, fun b h => ?_, fun b o h n => ?_⟩
  · rw [delC_out (del_at un h)]
    exact x.ext b o (add_at un h) n
  · obtain ⟨ps, h1, h2⟩ := x.tab p hp
    have r : cl.lookup p.2 = none := by
      cases r : cl.lookup p.2 with
      | none => rfl
      | some u => rw [told _ u r] at h1; cases h1
    exact ⟨ps, by rw [delC_out r]; exact h1, h2⟩
  · cases r : cl.lookup b with
    | some u => exact un b u r
    | none =>
      rw [delC_out r] at h
      exact (add_none (x.old b h)).2
  · rw [delC_out (del_at un h)]
    exact x.oth b o (add_at un h) n
end
end TG


namespace Dl
open PySem PySem.Spec PyProof.Rows L2 NdefX GenW Lv
/-! Lambdas of one parameter, whose default is a whole number, and that capture cells. -/
/-- the function's data, its defaults in a tuple -/
def fnD (name qual : Str) (params : Arguments) (body : Expr) (scope : Scope) (cl : List (Str × Addr)) (pm cdv ct : Value) (dV : Value) : FuncData :=
  { name := name, qualname := qual, params := params, body := .expr body, scope := scope, globals := mainGlobals, closure := cl, defaults := dV, kwdefaults := .none, pyModule := pm, code := cdv, closureTuple := ct, builtins := builtinsNs }
def objD (name qual : Str) (params : Arguments) (body : Expr) (scope : Scope) (cl : List (Str × Addr)) (pm : Value) (c' : Addr) (ct : Value) (dV : Value) : Obj := { cls := .type "function", data := .func (fnD name qual params body scope cl pm (.ref c') ct dV) }
theorem makeTail {M : Model} {A : Around} {E : Value → Shared → Prop} {s : Shared} {name qual : Str} {params : Arguments} {body : Expr} {scope : Scope} {env : Env} {c P : Addr} {ps : Array Value} {pos : Pos} {firstLine : Nat} {mg : Str → Option Value} {q : Str × Addr} {r : List (Str × Addr)} {dV : Value} {Q : Value → Shared → Prop}
    (hcl : closureFor scope env = pure (q :: r)) (hge0 : env.globals = mainGlobals) (hg : s.heap.Ns mainGlobals mg) (hcode : env.code = .ref c) (C : PySem.W.CodeHd s.heap c P) (hP : s.heap.get? P = some (PySem.W.tabObj ps)) (ht : TriplesOk ps.toList) (hnf : codeAmong pos ps.toList = none)
    (hgP : mainGlobals ≠ P) (hb : s.heap.BuiltinsAt mg P)
    (h : ∀ (c' : Nat) (ctv : Value) (h' : Heap) (tk : Nat), Heap.ExtBut P s.heap h' → s.heap.objs.size ≤ c' → c' < h'.objs.size → h'.CodeRec (.ref c') qual → h'.get? P = some (PySem.W.tabObj (ps ++ #[rawInt pos.line, rawInt pos.col, .ref c'])) →
      Q (.ref h'.objs.size) { heap := h'.push (objD name qual params body scope (q :: r) ((mg "__name__").getD .none) c' ctv dV), gens := s.gens, drawn := s.drawn, toks := tk, os := s.os }) :
    wpAny M A (PySem.makeTail name qual params (.expr body) scope env dV .none none pos firstLine) Q E s := by
  obtain ⟨bm, ob, hbm, hne0, hl, hneP, hbo, hcls, hdict, hdata⟩ := hb
  unfold PySem.makeTail
  rw [hcl, hge0]
  refine wpAny_bind (wpAny_pure ?_)
  rw [if_neg (by simp)]
  refine wpAny_bind (wpAny_newTextTuple ?_)
  refine wpAny_bind (wpAny_functionCodeX hcode (PySem.W.CodeHd.code (C.keeps fun b o e => Heap.get?_push_of_some _ e) (Heap.get?_push_of_some _ hP) ht) (PySem.W.CodeHd.tab (C.keeps fun b o e => Heap.get?_push_of_some _ e) (Heap.get?_push_of_some _ hP)) hnf fun c' h' tk hx hge hlt x hrec htb x_1 => ?_)
  have hg' := Heap.Ns.extBut (Heap.Ns.push hg _) hx hgP
  have hx' : Heap.ExtBut P s.heap h' := fun b o hb' e => hx b o hb' (Heap.get?_push_of_some _ e)
  have hge' : s.heap.objs.size ≤ c' := by
    have hge2 : s.heap.objs.size + 1 ≤ c' := by
      have := hge
      rw [Heap.size_push] at this
      exact this
    omega
  refine wpAny_bind (wpAny_builtinsFor hg' hbm hne0 (hx' bm ob hneP hbo) hcls hdict hdata (wpAny_bind (wpAny_nsGet hg' (wpAny_bind (wpAny_pure (wpAny_newObj_type (h c' _ h' tk hx' hge' hlt hrec htb.2) ?_))))))
  simp [sizeOk]
theorem makeTailHit {M : Model} {A : Around} {E : Value → Shared → Prop} {s : Shared} {name qual : Str} {params : Arguments} {body : Expr} {scope : Scope} {env : Env} {c P c' : Addr} {ps : Array Value} {pos : Pos} {firstLine : Nat} {mg : Str → Option Value} {q : Str × Addr} {r : List (Str × Addr)} {dV : Value} {Q : Value → Shared → Prop}
    (hcl : closureFor scope env = pure (q :: r)) (hge0 : env.globals = mainGlobals) (hg : s.heap.Ns mainGlobals mg) (hcode : env.code = .ref c) (C : PySem.W.CodeHd s.heap c P) (hP : s.heap.get? P = some (PySem.W.tabObj ps)) (ht : TriplesOk ps.toList) (hh : codeAmong pos ps.toList = some (.ref c'))
    (hb : s.heap.BuiltinsAt mg P)
    (h : ∀ (ctv : Value) (h' : Heap) (tk : Nat), (∀ (b : Addr) (o : Obj), s.heap.get? b = some o → h'.get? b = some o) → s.heap.objs.size ≤ h'.objs.size →
      Q (.ref h'.objs.size) { heap := h'.push (objD name qual params body scope (q :: r) ((mg "__name__").getD .none) c' ctv dV), gens := s.gens, drawn := s.drawn, toks := tk, os := s.os }) :
    wpAny M A (PySem.makeTail name qual params (.expr body) scope env dV .none none pos firstLine) Q E s := by
  obtain ⟨bm, ob, hbm, hne0, hl, hneP, hbo, hcls, hdict, hdata⟩ := hb
  unfold PySem.makeTail
  rw [hcl, hge0]
  refine wpAny_bind (wpAny_pure ?_)
  rw [if_neg (by simp)]
  refine wpAny_bind (wpAny_newTextTuple ?_)
  refine wpAny_bind (wpAny_functionCode_hit hcode (PySem.W.CodeHd.code (C.keeps fun b o e => Heap.get?_push_of_some _ e) (Heap.get?_push_of_some _ hP) ht) hh ?_)
  have hg' := Heap.Ns.push hg { cls := Value.type "tuple", data := Data.seq (List.map (fun x => Value.ref x.snd) ((q :: r).mergeSort fun a b => decide (a.fst.cps.toList ≤ b.fst.cps.toList))).toArray }
  refine wpAny_bind (wpAny_builtinsFor hg' hbm hne0 (Heap.get?_push_of_some _ hbo) hcls hdict hdata (wpAny_bind (wpAny_nsGet hg' (wpAny_bind (wpAny_pure (wpAny_newObj_type (h _ _ _ (fun b o e => Heap.get?_push_of_some _ e) (by rw [Heap.size_push]; exact Nat.le_succ _)) ?_))))))
  simp [sizeOk]
/-- the object at f is the lambda F of the body e, its defaults at t -/
def FnD (f : Addr) (F : NF) (e : Expr) (t : Addr) : HO := .ext fun h => ∃ (od : Option Addr) (sl : Array (Option Value)) (pm ctv : Value), h.get? f = some (⟨.type "function", od, .func (fnD F.name F.qual F.params e F.scope F.cl pm (.ref F.c) ctv (.ref t)), sl⟩ : Obj)
theorem fnD_at {P : Program} {w : World} {H : Hp} {h : Heap} {f : Addr} {F : NF} {e : Expr} {t : Addr} (hok : HOk P w H h) (q : H f = some (FnD f F e t)) : ∃ (od : Option Addr) (sl : Array (Option Value)) (pm ctv : Value), h.get? f = some (⟨.type "function", od, .func (fnD F.name F.qual F.params e F.scope F.cl pm (.ref F.c) ctv (.ref t)), sl⟩ : Obj) := by
  have z := hok f _ q
  obtain ⟨z, _, _⟩ := z
  exact z
theorem fnD_ne {f : Addr} {F : NF} {e : Expr} {t : Addr} (ps : Array Value) : FnD f F e t ≠ .tbl ps := fun z => by
  unfold FnD at z
  cases z
section
variable {X : Cx} {pins : List (Addr × Obj)} {σ : L2.St} {H : Hp} {s : Shared}
theorem inv_lamD {F : NF} {e : Expr} {t : Addr} {tk : Nat} {pm ctv : Value} (I : Inv X pins σ H s) :
    Inv X pins σ (upd H s.heap.objs.size (FnD s.heap.objs.size F e t)) { s with heap := s.heap.push (objD F.name F.qual F.params e F.scope F.cl pm F.c ctv (.ref t)), toks := tk } := by
  refine I.laid (a := s.heap.objs.size) (fun b u q => Heap.get?_push_of_some _ q) (Nat.le_refl _) ?_
  have q : (s.heap.push (objD F.name F.qual F.params e F.scope F.cl pm F.c ctv (.ref t))).get? s.heap.objs.size = some (objD F.name F.qual F.params e F.scope F.cl pm F.c ctv (.ref t)) := Heap.get?_push_size _ rfl
  exact ⟨⟨_, _, pm, ctv, q⟩, ⟨_, q⟩, fun h1 h2 ⟨od, sl, p, t, z⟩ st => ⟨od, sl, p, t, st _ z⟩⟩
theorem inv_tup0 {v : V} {u : Value} (I : Inv X pins σ H s) (r : RelV v u) :
    Inv X pins σ (upd H s.heap.objs.size (.tup [v])) { s with heap := s.heap.push { cls := Value.type "tuple", data := Data.seq [u].toArray } } :=
  I.laid (t' := s.toks) (fun b u e => Heap.get?_push_of_some _ e) (Nat.le_refl _) ⟨by show 1 ≤ sizeLine; decide, [u], .cons r .nil, _, Heap.get?_push_size s.heap rfl, rfl, 0, rfl⟩
/-- a lambda with one default is made -/
theorem lam_valD {c P : Addr} {params : Arguments} {body d : Expr} {scope : Scope} {pos : Pos} {Q : Value → Shared → Prop} {q0 : Str × Addr} {r0 : List (Str × Addr)} {v : V} (I : Inv X pins σ H s) (B : LamX.TabB X.base X.mg c P) (hcode : X.env.code = .ref c)
    (hT : LamX.TabS H P (X.env.qual ++ "<lambda>")) (hdef : params.defaults = [d]) (hkw : params.kw_defaults = []) (hko : params.kwonlyargs = []) (hd : PE X d (tC v)) (hfree : ∀ y ∈ scope.names, y.2 = .free → ∃ c, X.env.cells.lookup y.1 = some c) (hclo : cloFrom X.env.cells scope.names [] = q0 :: r0)
    (k : ∀ (f c' t : Addr) (H1 : Hp) (s' : Shared), Inv X pins σ H1 s' → (∀ b o, H b = some o → b ≠ P → H1 b = some o) → (∀ b, H1 b = none → H b = none) → LamX.TabS H1 P (X.env.qual ++ "<lambda>") → H f = none →
      H1 f = some (FnD f ⟨"<lambda>", X.env.qual ++ "<lambda>", params, [], scope, cloFrom X.env.cells scope.names [], c'⟩ body t) → H1 c' = some (LamX.CodeO c' (X.env.qual ++ "<lambda>")) → H1 t = some (.tup [v]) → Q (.ref f) s') :
    wpAny (model X.prog X.w) X.A (eval (.Lambda params body scope pos) X.env) Q X.xe s := by
  refine PySem.W.kdv_lam (by rw [hdef]; rfl) hkw ?_
  rw [hdef]
  show wpAny _ _ (evalAll (eval d X.env :: [])) _ _ _
  refine evalAll_cons (thn (hd.run pins s σ H (fun x H1 => x = v ∧ H1 = H) I ⟨rfl, rfl⟩) fun u s1 ⟨x, H1, I1, ru, ex, eH⟩ => ?_)
  subst ex
  subst eH
  refine wpAny_pure ?_
  rw [makeFunction_eq]
  simp only [List.isEmpty_cons, hko, List.zip_nil_left, List.filterMap_nil, List.isEmpty_nil, if_true, Bool.false_eq_true, if_false]
  refine wpAny_bind (wpAny_newTextTuple ?_)
  refine wpAny_bind (wpAny_pure ?_)
  refine wpAny_bind (wpAny_pure ?_)
  have I2 := inv_tup0 I1 ru
  have nt := I1.hok.fresh (Nat.le_refl s1.heap.objs.size)
  have ht2 : upd H1 s1.heap.objs.size (.tup [x]) s1.heap.objs.size = some (.tup [x]) := upd_same
  have kp2 : ∀ b o, H1 b = some o → upd H1 s1.heap.objs.size (.tup [x]) b = some o := fun b o e => by rw [upd_ne (ne_of_none e nt)]; exact e
  have np2 : ∀ b, upd H1 s1.heap.objs.size (.tup [x]) b = none → H1 b = none := fun b e => by
    unfold upd at e
    split at e
    · cases e
    · exact e
  obtain ⟨ps, tP0, tok, tin0⟩ := hT
  have tP := kp2 _ _ tP0
  have tin : ∀ pos cv, codeAmong pos ps.toList = some cv → ∃ c0, cv = .ref c0 ∧ upd H1 s1.heap.objs.size (.tup [x]) c0 = some (LamX.CodeO c0 (X.env.qual ++ "<lambda>")) := fun pos cv e => by
    obtain ⟨c0, e1, e2⟩ := tin0 pos cv e
    exact ⟨c0, e1, kp2 _ _ e2⟩
  generalize upd H1 s1.heap.objs.size (.tup [x]) = H2 at I2 ht2 kp2 np2 tP tin ⊢
  generalize s1.heap.objs.size = t at ht2 ⊢
  generalize hs2 : ({ heap := s1.heap.push { cls := Value.type "tuple", data := Data.seq [u].toArray }, gens := s1.gens, drawn := s1.drawn, toks := s1.toks, os := s1.os } : Shared) = s2 at I2 ⊢
  have bP : s2.heap.BuiltinsAt X.mg P := B.bm.keeps I2.bk
  have gP : s2.heap.get? P = some { cls := .none, data := .fields ps } := I2.hok P _ tP
  have none3 : ∀ {G : Hp} {x y z : Addr} {o u v : HO} {b : Addr}, upd (upd (upd G x o) y u) z v b = none → G b = none := fun {G x y z o u v b} q => by
    have r1 := q
    unfold upd at r1
    split at r1
    · cases r1
    split at r1
    · cases r1
    split at r1
    · cases r1
    exact r1
  have hclf : closureFor scope X.env = pure (q0 :: r0) := by rw [← hclo]; exact closure_ok hfree
  cases hc : codeAmong pos ps.toList with
  | some cv =>
    obtain ⟨c', e, hco⟩ := tin pos cv hc
    subst e
    refine makeTailHit (mg := X.mg) (c := c) (P := P) (ps := ps) hclf I2.ok.glob (I2.mod.glob.keeps I2.bk) hcode (B.code.keeps I2.bk) gP tok hc bP fun ctv h' tk hx2 hsz => ?_
    have I3 : Inv X pins σ H2 { s2 with heap := h', toks := tk } := I2.kept hx2
    have nF : H2 h'.objs.size = none := I3.hok.fresh (Nat.le_refl _)
    have I4 := inv_lamD (F := ⟨"<lambda>", X.env.qual ++ "<lambda>", params, [], scope, cloFrom X.env.cells scope.names [], c'⟩) (e := body) (t := t) (tk := tk) (pm := (X.mg "__name__").getD .none) (ctv := ctv) I3
    rw [hclo] at I4
    refine k h'.objs.size c' t _ _ I4 (fun b o q _ => by rw [upd_ne (ne_of_none (kp2 _ _ q) nF)]; exact kp2 _ _ q) (fun b q => np2 b ?_) ⟨ps, by rw [upd_ne (ne_of_none tP nF)]; exact tP, tok, fun p' cv' q => ?_⟩ (np2 _ nF) (by rw [upd_same, hclo]) (by rw [upd_ne (ne_of_none hco nF)]; exact hco) (by rw [upd_ne (ne_of_none ht2 nF)]; exact ht2)
    · unfold upd at q
      split at q
      · cases q
      · exact q
    · obtain ⟨c0, e1, e2⟩ := tin p' cv' q
      exact ⟨c0, e1, by rw [upd_ne (ne_of_none e2 nF)]; exact e2⟩
  | none =>
    refine makeTail (mg := X.mg) (c := c) (P := P) (ps := ps) hclf I2.ok.glob (I2.mod.glob.keeps I2.bk) hcode (B.code.keeps I2.bk) gP tok hc B.gP bP fun c' ctv h' tk hx2 hge hlt hrec htb => ?_
    obtain ⟨c2, oc, vs, t2, e2, hoc, hd2, hv⟩ := hrec
    cases e2
    have nC : H2 c' = none := I2.hok.fresh hge
    have I3 := LamX.inv_table (t' := tk) (more := #[rawInt pos.line, rawInt pos.col, .ref c']) (h' := h') I2 tP (fun b o hb q => hx2 b o hb q) htb hge ⟨oc, vs, t2, hoc, hd2, hv⟩
    have nF := I3.hok.fresh (Nat.le_refl _)
    have I4 := inv_lamD (F := ⟨"<lambda>", X.env.qual ++ "<lambda>", params, [], scope, cloFrom X.env.cells scope.names [], c'⟩) (e := body) (t := t) (tk := tk) (pm := (X.mg "__name__").getD .none) (ctv := ctv) I3
    rw [hclo] at I4
    have fC : h'.objs.size ≠ c' := Nat.ne_of_gt hlt
    have pC : P ≠ c' := ne_of_none tP nC
    have nF0 : H2 h'.objs.size = none := I2.hok.fresh (Nat.le_trans hge (Nat.le_of_lt hlt))
    have pF : P ≠ h'.objs.size := ne_of_none tP nF0
    have eL : (ps ++ #[rawInt pos.line, rawInt pos.col, .ref c']).toList = ps.toList ++ [rawInt pos.line, rawInt pos.col, .ref c'] := by simp
    have kk : ∀ b o, H2 b = some o → b ≠ P → upd (upd (upd H2 P (.tbl (ps ++ #[rawInt pos.line, rawInt pos.col, .ref c']))) c' (LamX.CodeO c' (X.env.qual ++ "<lambda>"))) h'.objs.size (FnD h'.objs.size ⟨"<lambda>", X.env.qual ++ "<lambda>", params, [], scope, q0 :: r0, c'⟩ body t) b = some o := fun b o q hb => by
      rw [upd_ne (ne_of_none q nF0), upd_ne (ne_of_none q nC), upd_ne hb]
      exact q
    refine k h'.objs.size c' t _ _ I4 (fun b o q hb => kk b o (kp2 _ _ q) hb) (fun b q => np2 b (none3 q)) ⟨_, by rw [upd_ne pF, upd_ne pC, upd_same], by rw [eL]; exact PySem.TriplesOk_snoc _ _ _ _ tok, fun p' cv q => ?_⟩ (np2 _ nF0) (by rw [upd_same, hclo]) (by rw [upd_ne fC.symm, upd_same]) (kk t _ ht2 fun e => by rw [e, tP] at ht2; cases ht2)
    rw [eL] at q
    rcases LamX.among_app _ tok q with z | z
    · obtain ⟨c0, e1, e2⟩ := tin p' cv z
      exact ⟨c0, e1, kk _ _ e2 (fun y => by rw [y, tP] at e2; exact LamX.codeO_ne ps (Option.some.inj e2).symm)⟩
    · exact ⟨c', z, by rw [upd_ne fC.symm, upd_same]⟩
end
end Dl


namespace Dl
open PySem PySem.Spec PyProof.Rows L2 NdefX GenW Lv
theorem bind1 {M : Model} {A : Around} {E : Value → Shared → Prop} {s : Shared} {name qual nm : Str} {params : Arguments} {body : Expr} {scope : Scope} {cl : List (Str × Addr)} {pm cdv ct u : Value} {t : Addr} {o : Obj} {n : Nat} {Q : List (Str × Value) → Shared → Prop}
    (hp : params.posonlyargs = []) (ha : params.args.map (·.arg) = [nm]) (hk : params.kwonlyargs = []) (hv : params.vararg = none) (hkw : params.kwarg = none) (ho : s.heap.get? t = some o) (hd : o.data = .seq #[u] n) (h : Q [(nm, u)] s) :
    wpAny M A (bindArgs (fnD name qual params body scope cl pm cdv ct (.ref t)) ⟨[], []⟩) Q E s := by
  unfold bindArgs
  simp only [fnD, hp, ha, hk, hv, hkw, List.map_nil, List.nil_append, List.zip_nil_right, List.forIn_nil]
  refine wpAny_bind (wpAny_pure ?_)
  refine wpAny_bind (wpAny_seqItems ho hd ?_)
  simp
  exact wpAny_pure h
end Dl

namespace TG
open PySem PySem.Spec PyProof.Rows L2 NdefX GenW Gx Lv Dl
/-! ### works: lambdas that are called without anything, with or without a default -/
structure LamW (P : Program) (w : World) (K : PySem.W.Frag) (mg : Str → Option Value) (base : Heap) (k : Nat) (f : Addr) (Hf : Hp → Prop) (sp : Sp) : Prop where
  at_ : ∀ {H : Hp} {h : Heap}, HOk P w H h → Hf H → PySem.W.FnAt f h
  run : ∀ (A : Around) (outer : List Env) (s : Shared) (H : Hp) (Q : VK) (E : XK), Room k A → Env0 P w K mg base A outer s H → Hf H → sp [] H Q E →
    codeAny (model P w) A (.call (.ref f) ⟨[], []⟩) (CR (L2.CX P w) outer P w H s Q E) s
/-- a lambda without parameters stands -/
def HfL (f : Addr) (F : NF) (e : Expr) (H : Hp) : Prop := H f = some (FnL f F e) ∧ H F.c = some (LamX.CodeO F.c F.qual)
/-- one with a default -/
def HfD (f : Addr) (F : NF) (e : Expr) (t : Addr) (v : V) (H : Hp) : Prop := H f = some (FnD f F e t) ∧ H F.c = some (LamX.CodeO F.c F.qual) ∧ H t = some (.tup [v])
theorem HfL.ex {cs : List (Addr × Addr)} {f : Addr} {F : NF} {e : Expr} {H H' : Hp} (h : HfL f F e H) (x : Ex cs H H') : HfL f F e H' :=
  ⟨x.ext _ _ h.1 fun ps => fnL_ne ps, x.ext _ _ h.2 fun ps => LamX.codeO_ne ps⟩
theorem HfD.ex {cs : List (Addr × Addr)} {f : Addr} {F : NF} {e : Expr} {t : Addr} {v : V} {H H' : Hp} (h : HfD f F e t v H) (x : Ex cs H H') : HfD f F e t v H' :=
  ⟨x.ext _ _ h.1 fun ps => fnD_ne ps, x.ext _ _ h.2.1 fun ps => LamX.codeO_ne ps, x.tup h.2.2⟩
section
variable {P : Program} {w : World} {K : PySem.W.Frag} {mg : Str → Option Value} {base : Heap}
theorem lamw_l {k : Nat} {f : Addr} {F : NF} {e : Expr} {sp : Sp} (L : LOkX P w K mg base k f F e sp) : LamW P w K mg base k f (HfL f F e) sp :=
  ⟨fun {H h} hok q => by
    obtain ⟨od, sl, pm, ctv, ho⟩ := fnL_at hok q.1
    exact ⟨_, od, _, sl, ho⟩, fun A outer s H Q E hr e0 h hsp => L.run A outer s H Q E hr e0 h.1 h.2 hsp⟩
theorem lamw_d {k : Nat} {f t : Addr} {F : NF} {e : Expr} {N fr : List Str} {nm : Str} {v : V} {sp : Sp} (S : NScope N [nm] fr F.scope) (hp : F.params.posonlyargs = []) (ha : F.params.args.map (·.arg) = [nm]) (hk : F.params.kwonlyargs = []) (hv : F.params.vararg = none) (hkw : F.params.kwarg = none) (hloc : F.scope.names.lookup nm = some .local)
    (hbody : ∀ (A : Around) (outer : List Env) (s : Shared) (H : Hp) (Q : VK) (E : XK), Room k (A.deeper (envF F f s.heap.objs.size)) → sp [] H Q E → ∃ (ws : List (Option V)) (cl : List (Addr × Obj)) (t : TE), Caught F fr ws cl H ∧
      PE (ncx (L2.CX P w) P w K mg base N F f A outer s (delC H cl) (fun cls d H' => (∀ c o, cl.lookup c = some o → H' c = none) → E cls d (addC H' cl))) e t ∧ t (startF N [v] ws) (delC H cl) (fun v H' => (∀ c o, cl.lookup c = some o → H' c = none) → Q v (addC H' cl))) :
    LamW P w K mg base (k + 1) f (HfD f F e t v) sp := by
  refine ⟨fun {H h} hok q => ?_, fun A outer s H Q E hr e0 hfd hsp => ?_⟩
  · obtain ⟨od, sl, pm, ctv, ho⟩ := fnD_at hok q.1
    exact ⟨_, od, _, sl, ho⟩
  obtain ⟨hf, hc, ht0⟩ := hfd
  have lim : s.heap.NoLimit := e0.mod.nolimit.keeps fun b o q => (e0.bs b o q).1
  obtain ⟨od, sl, pm, ctv, ho⟩ := fnD_at e0.hok hf
  obtain ⟨ws, cl, tm, C, ht, hq⟩ := hbody A outer s H Q E (hr.deeper _) hsp
  obtain ⟨_, us, rv, ot, hot, hoc, n, hod⟩ := e0.hok t _ ht0
  obtain ⟨u, rfl, ru⟩ : ∃ u, us = [u] ∧ RelV v u := by
    cases rv with
    | cons r rest => cases rest; exact ⟨_, rfl, r⟩
  have hnf : ∀ c o, cl.lookup c = some o → c ∉ frs outer := fun c o q hb => by
    have z := e0.frf c hb
    rw [C.told c o q] at z
    cases z
  have at0 : ∀ c o, cl.lookup c = some o → s.heap.get? c = some o := fun c o q => (e0.hok c _ (C.told c o q)).1
  refine codeAny_mono (R := CR (L2.CX P w) outer P w (delC H cl) s (fun v H' => (∀ c o, cl.lookup c = some o → H' c = none) → Q v (addC H' cl)) (fun cls d H' => (∀ c o, cl.lookup c = some o → H' c = none) → E cls d (addC H' cl))) ?_ fun r s' q => ?_
  · have e1 := env_del e0 C.told
    refine PySem.W.kla_callFunE hr.depth ho rfl S.co S.gen rfl (codeO_at e0.hok hc) ?_
    refine bind1 hp ha hk hv hkw hot hod ?_
    refine wpAny_newFunctionEnv S.nocell (fun ⟨n, _⟩ hy => by rw [List.mem_singleton] at hy; injection hy with h1 _; rw [h1]; exact hloc) (fun h₁ hns hsb => ⟨lim.fresh _ hsb, ?_⟩) S.kind
    have kp : ∀ b o, s.heap.get? b = some o → h₁.get? b = some o := fun b o q => hsb.extBut b o (Nat.ne_of_lt (Heap.lt_size q)) (Heap.get?_push_of_some _ q)
    have CA : NdefX.CellsAt F.cl fr ws s.heap (delC H cl) := by
      refine ⟨C.len, fun y c q => ?_, C.inj, fun i y q => ?_⟩
      · obtain ⟨o, v, h1, h2⟩ := C.all y c q
        exact ⟨delC_in h1, v, o, at0 c o h1, h2⟩
      · obtain ⟨c, h1, h2⟩ := C.has i y q
        refine ⟨c, h1, fun v hv => ?_⟩
        obtain ⟨o, u, h3, h4, h5⟩ := h2 v hv
        exact ⟨u, h5, o, at0 c o h3, h4⟩
    have I := inv_startN (CX := L2.CX P w) (P := P) (w := w) (E := fun cls d H' => (∀ c o, cl.lookup c = some o → H' c = none) → E cls d (addC H' cl)) (f := f) (tk := s.toks + (([nm] : List Str).zip ([u] : List Value)).length) S hr.hd e1 (vs := [v]) (us := [u]) rfl (.cons ru .nil) CA hns kp
    refine PySem.W.kla_codeExpr (wpAny_mono (ht.run [] _ (startF N [v] ws) (delC H cl) _ I hq) (fun v s' q => ?_) fun e' s' q => q)
    obtain ⟨w', H', J, rv, q⟩ := q
    exact ⟨w', H', J.os, J.bare, J.base, J.hok, rv, q⟩
  · cases r with
    | error er => exact cx_add e0.hok (fun c o q => ⟨C.told c o q, hnf c o q⟩) q
    | ok fl =>
      cases fl with
      | ret u => exact ce_add e0.hok (fun c o q => ⟨C.told c o q, hnf c o q⟩) q
      | next => exact False.elim q
      | brk => exact False.elim q
      | cont => exact False.elim q
end
/-! ### a call of such a work by a local's name, in a try -/
def tCallW (P : Program) (w : World) (K : PySem.W.Frag) (mg : Str → Option Value) (base : Heap) (k i : Nat) (W : WX) : TE := fun σ H Q => ∃ (f : Addr) (Hf : Hp → Prop) (sp : Sp), σ[i]? = some (some (.ref f)) ∧ Hf H ∧ LamW P w K mg base k f Hf sp ∧ sp [] H Q (WE W σ)
theorem pe_callW {X : Cx} {W : WX} {i k : Nat} {x : Str} {p pos : Pos} {P : Program} {w : World} {K : PySem.W.Frag} {mg : Str → Option Value} {base : Heap} (eX : X.prog = P ∧ X.w = w ∧ X.K = K ∧ X.mg = mg ∧ X.base = base) (hr : Room k X.A) (tk : Takes X W) (hN : X.N[i]? = some x) (hv : Vis X.env.scope x) (hd : (x == ("__debug__" : Str)) = false := by decide) (hcd : (x == ("__classdict__" : Str)) = false := by decide) :
    PE X (.Call (.Name x p) [] [] pos) (tCallW P w K mg base k i W) := by
  obtain ⟨rfl, rfl, rfl, rfl, rfl⟩ := eX
  refine ⟨fun pins s σ H Q I h => ?_⟩
  obtain ⟨f, Hf, sp, hs, hf, L, q⟩ := h
  refine wpAny_Call_Name_kw (thn ((pe_var (pos := p) hN hv hd hcd).run pins s σ H (fun v H1 => v = .ref f ∧ H1 = H) I ⟨.ref f, hs, rfl, rfl⟩) fun u s1 ⟨v, H1, I1, r1, q1⟩ => ?_)
  obtain ⟨ev, eH⟩ := q1
  subst ev eH
  obtain rfl : u = Value.ref f := r1
  have at_ := L.at_ I1.hok hf
  refine PySem.W.callWith_F0 (first := []) at_ ?_
  refine wpAny_call (codeAny_mono (L.run X.A X.stack s1 H1 Q (WE W σ) hr I1.env0 hf q) fun r' s' hq => ?_)
  cases r' with
  | error er => exact passAt tk σ pins H1 s1 er s' I1 hq
  | ok fl =>
    cases fl with
    | ret u => exact I1.after hq
    | next => exact False.elim hq
    | brk => exact False.elim hq
    | cont => exact False.elim hq
/-! ### such a lambda is made -/
def tLamD (P : Addr) (q : Str) (params : Arguments) (body : Expr) (scope : Scope) (cl : List (Str × Addr)) (v : V) : TE := fun _ H Q => LamX.TabS H P q ∧ ∀ (f c' t : Addr) (H1 : Hp), (∀ b o, H b = some o → b ≠ P → H1 b = some o) → (∀ b, H1 b = none → H b = none) → LamX.TabS H1 P q → H f = none →
  HfD f ⟨"<lambda>", q, params, [], scope, cl, c'⟩ body t v H1 → Q (.ref f) H1
theorem pe_lamD {X : Cx} {c P : Addr} {params : Arguments} {body d : Expr} {scope : Scope} {pos : Pos} {v : V} (B : LamX.TabB X.base X.mg c P) (hcode : X.env.code = .ref c) (hdef : params.defaults = [d]) (hkw : params.kw_defaults = []) (hko : params.kwonlyargs = []) (hd : PE X d (tC v))
    (hfr : ∀ y ∈ scope.names, y.2 = .free → X.env.kindOf y.1 = some .cell ∨ X.env.kindOf y.1 = some .free) (hne : ∃ y ∈ scope.names, y.2 = .free) :
    PE X (.Lambda params body scope pos) (tLamD P (X.env.qual ++ "<lambda>") params body scope (cloFrom X.env.cells scope.names []) v) := by
  refine ⟨fun pins s σ H Q I h => ?_⟩
  obtain ⟨hT, h⟩ := h
  have hfree : ∀ y ∈ scope.names, y.2 = .free → ∃ c, X.env.cells.lookup y.1 = some c := fun y hy e => I.ok.has _ (hfr y hy e)
  obtain ⟨y, hy, ey⟩ := hne
  obtain ⟨cy, hcy⟩ := hfree y hy ey
  cases hq : cloFrom X.env.cells scope.names [] with
  | nil =>
    have hm := @cloFrom_has X.env.cells scope.names [] y.1 (by rw [← ey]; exact hy)
    rw [hq] at hm
    cases hm
  | cons q0 r0 =>
    rw [hq] at h
    exact lam_valD I B hcode hT hdef hkw hko hd hfree hq fun f c' t H1 s' J k1 k2 t1 nf hf hc ht => ⟨.ref f, H1, J, rfl, h f c' t H1 k1 k2 t1 nf ⟨by rw [← hq]; exact hf, hc, ht⟩⟩
end TG


namespace EnT
open PySem PySem.Spec PyProof.Rows L2
end EnT
namespace TGK
open TG
open PySem PySem.Spec PyProof.Rows L2 Gx EnT
structure TupL (H0 : Hp) (D : Addr) (l : List (List V)) (H : Hp) : Prop where
  sm : Same H0 H
  nD : H0 D = none
  ts : ∃ ts : List Addr, H D = some (.lst (ts.map V.ref)) ∧ ts.length = l.length ∧ ∀ (j : Nat) (t : Addr) (v : List V), ts[j]? = some t → l[j]? = some v → H t = some (.tup v)
theorem TupL.more {H0 H : Hp} {D t : Addr} {l : List (List V)} {v : List V} (o : TupL H0 D l H) (ht : H t = some (.tup v)) : ∃ acc, H D = some (.lst acc) ∧ acc.length = l.length ∧ TupL H0 D (l ++ [v]) (upd H D (.lst (acc ++ [.ref t]))) := by
  obtain ⟨ts, h1, h2, h3⟩ := o.ts
  have tD : ∀ {t : Addr} {v : List V}, H t = some (.tup v) → t ≠ D := fun {t v} h z => by rw [z, h1] at h; cases h
  refine ⟨_, h1, by rw [List.length_map, h2], fun b u e => by rw [upd_ne (ne_of_none e o.nD)]; exact o.sm b u e, o.nD, ts ++ [t], by rw [upd_same]; simp, by rw [List.length_append, List.length_append, h2]; rfl, fun j s u e1 e2 => ?_⟩
  by_cases hj : j < ts.length
  · rw [List.getElem?_append_left hj] at e1
    rw [List.getElem?_append_left (by rw [← h2]; exact hj)] at e2
    have := h3 j s u e1 e2
    rw [upd_ne (tD this)]
    exact this
  · have hl := (List.getElem?_eq_some_iff.mp e1).1
    rw [List.length_append, List.length_singleton] at hl
    have ej : j = ts.length := by omega
    subst ej
    rw [List.getElem?_append_right (Nat.le_refl _), Nat.sub_self] at e1
    rw [h2, List.getElem?_append_right (Nat.le_refl _), Nat.sub_self] at e2
    cases e1
    cases e2
    rw [upd_ne (tD ht)]
    exact ht
def rowSp (r : List Str) : List (Nat × Nat) := (List.range r.length).flatMap fun c => (List.range ((r.getD c nilS).length + 1)).map fun k => (c, k)
def pageSp (rows : List (List Str)) : List (Nat × Nat × Nat) := (List.range rows.length).flatMap fun i => (rowSp (rows.getD i [])).map fun p => (i, p.1, p.2)
abbrev v3 (p : Nat × Nat × Nat) : List V := [.int (p.1 : Nat), .int (p.2.1 : Nat), .int (p.2.2 : Nat)]
def rowTo (r : List Str) (n : Nat) : List (Nat × Nat) := (List.range n).flatMap fun c => (List.range ((r.getD c nilS).length + 1)).map fun k => (c, k)
def pageTo (rows : List (List Str)) (n : Nat) : List (Nat × Nat × Nat) := (List.range n).flatMap fun i => (rowSp (rows.getD i [])).map fun p => (i, p.1, p.2)
theorem rowTo_succ (r : List Str) (n : Nat) : rowTo r (n + 1) = rowTo r n ++ (List.range ((r.getD n nilS).length + 1)).map fun k => (n, k) := by
  unfold rowTo
  rw [List.range_succ, List.flatMap_append]
  simp
theorem pageTo_succ (rows : List (List Str)) (n : Nat) : pageTo rows (n + 1) = pageTo rows n ++ (rowSp (rows.getD n [])).map fun p => (n, p.1, p.2) := by
  unfold pageTo
  rw [List.range_succ, List.flatMap_append]
  simp
theorem mem_rowSp {r : List Str} {c k : Nat} : (c, k) ∈ rowSp r ↔ c < r.length ∧ k ≤ (r.getD c nilS).length := by
  unfold rowSp
  rw [List.mem_flatMap]
  constructor
  · rintro ⟨a, h1, h2⟩
    obtain ⟨b, h3, h4⟩ := List.mem_map.mp h2
    injection h4 with h4 h5
    subst h4 h5
    rw [List.mem_range] at h1 h3
    exact ⟨h1, by omega⟩
  · rintro ⟨h1, h2⟩
    exact ⟨c, List.mem_range.mpr h1, List.mem_map.mpr ⟨k, List.mem_range.mpr (by omega), rfl⟩⟩
theorem mem_pageSp {rows : List (List Str)} {p : Nat × Nat × Nat} : p ∈ pageSp rows ↔ p.1 < rows.length ∧ (p.2.1, p.2.2) ∈ rowSp (rows.getD p.1 []) := by
  unfold pageSp
  rw [List.mem_flatMap]
  constructor
  · rintro ⟨a, h1, h2⟩
    obtain ⟨b, h3, rfl⟩ := List.mem_map.mp h2
    exact ⟨List.mem_range.mp h1, h3⟩
  · rintro ⟨h1, h2⟩
    exact ⟨p.1, List.mem_range.mpr h1, List.mem_map.mpr ⟨_, h2, rfl⟩⟩
theorem rowSp_nd (r : List Str) : (rowSp r).Nodup := by
  unfold rowSp
  refine List.pairwise_flatMap.mpr ⟨fun c _ => ?_, ?_⟩
  · rw [List.pairwise_map]
    refine List.nodup_range.imp fun h z => ?_
    injection z with _ z
    exact h z
  · refine List.nodup_range.imp fun h x hx y hy z => ?_
    obtain ⟨k, _, rfl⟩ := List.mem_map.mp hx
    obtain ⟨k', _, rfl⟩ := List.mem_map.mp hy
    injection z with z _
    exact h z
theorem pageSp_nd (rows : List (List Str)) : (pageSp rows).Nodup := by
  unfold pageSp
  refine List.pairwise_flatMap.mpr ⟨fun i _ => ?_, ?_⟩
  · rw [List.pairwise_map]
    refine (rowSp_nd _).imp fun {a b} h z => h ?_
    injection z with _ z
  · refine List.nodup_range.imp fun h x hx y hy z => ?_
    obtain ⟨k, _, rfl⟩ := List.mem_map.mp hx
    obtain ⟨k', _, rfl⟩ := List.mem_map.mp hy
    injection z with z _
    exact h z
end TGK
namespace EnT
open PySem PySem.Spec PyProof.Rows L2
section
variable {prog : Program} {w : World} {A : Around} {E : Value → Shared → Prop} {s : Shared}
end
end EnT
namespace EnT
open PySem PySem.Spec PyProof.Rows L2
end EnT
namespace TGK
open TG
open PySem PySem.Spec PyProof.Rows L2 Gx EnT
def zT (z : Str) (k : Nat) : Str := cutS z none (some (k : Int))
def zD (z : Str) (k : Nat) : Str := cutS z (some (k : Int)) none
theorem cl_zT (z : Str) (k : Nat) : cl (zT z k) = (cl z).take k := by
  obtain ⟨⟨l⟩⟩ := z
  unfold zT cutS
  simp only [cl, Str.length]
  rw [HT.sIx_none, HT.sIx_nat]
  simp
theorem cl_zD (z : Str) (k : Nat) : cl (zD z k) = (cl z).drop k := by
  obtain ⟨⟨l⟩⟩ := z
  unfold zD cutS
  simp only [cl, Str.length]
  rw [HT.sIx_none, HT.sIx_nat]
  simp only [List.size_toArray]
  rw [List.take_of_length_le (by rw [List.length_drop]; omega)]
  by_cases h : k ≤ l.length
  · rw [Nat.min_eq_left h]
  · rw [Nat.min_eq_right (by omega), List.drop_eq_nil_of_le (Nat.le_refl _), List.drop_eq_nil_of_le (by omega)]
theorem len_clz (z : Str) : z.length = (cl z).length := by
  show z.cps.size = z.cps.toList.length
  simp
theorem len_zz (a b : Str) : (a ++ b).length = a.length + b.length := by rw [len_clz, cl_app, List.length_append, ← len_clz, ← len_clz]
/-- signs all good, at most so many -/
structure Sgs (z : Str) (m : Nat) : Prop where
  len : z.length ≤ m
  sg : ∀ c ∈ cl z, SgOk c
theorem Sgs.cell {z : Str} (h : Sgs z 10) : CellOk z := ⟨h.len, h.sg⟩
theorem Sgs.app {a b : Str} {m n : Nat} (h : Sgs a m) (h2 : Sgs b n) : Sgs (a ++ b) (m + n) := ⟨by rw [len_zz]; have := h.len; have := h2.len; omega, fun c hc => by
  rw [cl_app] at hc
  rcases List.mem_append.mp hc with q | q
  · exact h.sg c q
  · exact h2.sg c q⟩
/-- a row that may be too long, its cells too -/
structure RowL (r : List Str) (n m : Nat) : Prop where
  pos : 1 ≤ r.length
  len : r.length ≤ n
  cells : ∀ z ∈ r, Sgs z m
theorem RowL.ok {r : List Str} {n m : Nat} (h : RowL r n m) (h1 : r.length ≤ 6) (h2 : ∀ z ∈ r, z.length ≤ 10) : RowOk r := ⟨h.pos, h1, fun z hz => ⟨h2 z hz, (h.cells z hz).sg⟩⟩
def fitR (r : List Str) : Bool := decide (1 ≤ r.length ∧ r.length ≤ 6) && r.all fun z => decide (z.length ≤ 10)
def halvA (r : List Str) (c k : Nat) : List Str := r.take c ++ [zT (r.getD c nilS) k]
def halvB (r : List Str) (c k : Nat) : List Str := zD (r.getD c nilS) k :: r.drop (c + 1)
def joinR (a b : List Str) : List Str := a.dropLast ++ (a.getLast?.getD nilS ++ b.headD nilS) :: b.tail
/-- a row without its first sign, or tab; none, where nothing is there -/
def lessR (r : List Str) : Option (List Str) := if r.headD nilS ≠ nilS then some (zD (r.headD nilS) 1 :: r.tail) else if r.length = 1 then none else some r.tail
section
variable {K : PySem.W.Frag} {H : Hp} {a b : Addr} {xs ys : List Str} {Q : VK}
end
end TGK
namespace TGK
open TG
open PySem L2 Gx
section
variable {P : Program} {w : World} {K : PySem.W.Frag} {mg : Str → Option Value} {base : Heap} {cs : List (Addr × Addr)}
end
end TGK
namespace TGK
open TG
open PySem PySem.Spec PyProof.Rows L2 Gx EnT
/-- rows at addresses -/
structure RowsAt (K : PySem.W.Frag) (H : Hp) (as : List Addr) (rows : List (List Str)) : Prop where
  len : as.length = rows.length
  row : ∀ (i : Nat) (p : Addr) (r : List Str), as[i]? = some p → rows[i]? = some r → SqT K H p (sV r)
theorem _root_.TG.PageAt.rows {K : PySem.W.Frag} {H : Hp} {a : Addr} {as : List Addr} {rows : List (List Str)} (p : PageAt K H a as rows) : RowsAt K H as rows := ⟨p.len, p.row⟩
section
variable {P : Program} {w : World} {K : PySem.W.Frag} {mg : Str → Option Value} {base : Heap} {cs : List (Addr × Addr)} {R C G : Addr}
abbrev tabS : Str := "\t"
/-- check_fits -/
def fitsR (m : Int) (new : List (List Str)) : Bool := decide (1 ≤ m ∧ m ≤ 30) && new.all fitR
end
end TGK
namespace TGK
open TG
open PySem PySem.Spec PyProof.Rows L2 Gx EnT
section
variable {P : Program} {w : World} {K : PySem.W.Frag} {mg : Str → Option Value} {base : Heap} {cs : List (Addr × Addr)} {R C G : Addr}
end
end TGK
namespace TGK
open TG
open PySem PySem.Spec PyProof.Rows L2 Gx EnT
section
variable {P : Program} {w : World} {K : PySem.W.Frag} {mg : Str → Option Value} {base : Heap} {cs : List (Addr × Addr)} {R C G : Addr}
theorem TupL.lst {H0 H : Hp} {D : Addr} {l : List (List V)} (o : TupL H0 D l H) : ∃ acc, H D = some (.lst acc) ∧ acc.length = l.length := by
  obtain ⟨ts, h1, h2, _⟩ := o.ts
  exact ⟨_, h1, by rw [List.length_map, h2]⟩
end
end TGK
namespace TGK
open TG
open PySem PySem.Spec PyProof.Rows L2 Gx EnT
/-- all but two lists stay -/
def NT (cs : List (Addr × Addr)) (c : Addr) (o : HO) : Prop := (∀ ps, o ≠ .tbl ps) ∨ ∀ p ∈ cs, p.2 ≠ c
def XN (cs : List (Addr × Addr)) (H H' : Hp) : Prop := ∀ b o, H b = some o → NT cs b o → H' b = some o
def ExtS (cs : List (Addr × Addr)) (rl dl : Addr) (H H' : Hp) : Prop := ∀ b o, H b = some o → NT cs b o → b ≠ rl → b ≠ dl → H' b = some o
theorem ExtS.of {cs : List (Addr × Addr)} {rl dl : Addr} {H H' : Hp} (x : XN cs H H') : ExtS cs rl dl H H' := fun b o h n _ _ => x b o h n
theorem ExtS.gw {cs : List (Addr × Addr)} {rl dl : Addr} {H H1 H' : Hp} (x : ExtS cs rl dl H H1) (y : XN cs H1 H') : ExtS cs rl dl H H' := fun b o h n m1 m2 => y b o (x b o h n m1 m2) n
theorem RowsAt.gw {K : PySem.W.Frag} {H H' : Hp} {as : List Addr} {rows : List (List Str)} (x : LamX.ExtN H H') (p : RowsAt K H as rows) : RowsAt K H' as rows := ⟨p.len, fun i q r e1 e2 => by
  rcases p.row i q r e1 e2 with (h | ⟨u, h⟩) | h
  · exact .inl (.inl (x _ _ h fun ps z => by cases z))
  · exact .inl (.inr ⟨u, x _ _ h fun ps z => by cases z⟩)
  · exact .inr h⟩
theorem _root_.TG.StyleAt.gwN {K : PySem.W.Frag} {H H' : Hp} {a : Addr} {gap least : Int} (p : StyleAt K H a gap least) (x : LamX.ExtN H H') : StyleAt K H' a gap least := ⟨by
  rcases p.tup with (h | ⟨u, h⟩) | h
  · exact .inl (.inl (x _ _ h fun ps z => by cases z))
  · exact .inl (.inr ⟨u, x _ _ h fun ps z => by cases z⟩)
  · exact .inr h, p.g0, p.g1, p.l0, p.l1⟩
theorem RowsAt.app {K : PySem.W.Frag} {H : Hp} {as bs : List Addr} {rows ss : List (List Str)} (p : RowsAt K H as rows) (q : RowsAt K H bs ss) : RowsAt K H (as ++ bs) (rows ++ ss) := by
  refine ⟨by rw [List.length_append, List.length_append, p.len, q.len], fun i a r e1 e2 => ?_⟩
  by_cases h : i < as.length
  · rw [List.getElem?_append_left h] at e1
    rw [List.getElem?_append_left (by rw [← p.len]; exact h)] at e2
    exact p.row i a r e1 e2
  · rw [List.getElem?_append_right (by omega)] at e1
    rw [List.getElem?_append_right (by rw [← p.len]; omega), ← p.len] at e2
    exact q.row _ a r e1 e2
theorem RowsAt.take {K : PySem.W.Frag} {H : Hp} {as : List Addr} {rows : List (List Str)} (p : RowsAt K H as rows) (n : Nat) : RowsAt K H (as.take n) (rows.take n) := by
  refine ⟨by rw [List.length_take, List.length_take, p.len], fun i a r e1 e2 => ?_⟩
  rw [List.getElem?_take] at e1 e2
  by_cases h : i < n
  · rw [if_pos h] at e1 e2
    exact p.row i a r e1 e2
  · rw [if_neg h] at e1
    cases e1
theorem RowsAt.drop {K : PySem.W.Frag} {H : Hp} {as : List Addr} {rows : List (List Str)} (p : RowsAt K H as rows) (n : Nat) : RowsAt K H (as.drop n) (rows.drop n) := by
  refine ⟨by rw [List.length_drop, List.length_drop, p.len], fun i a r e1 e2 => ?_⟩
  rw [List.getElem?_drop] at e1 e2
  exact p.row _ a r e1 e2
/-- some in the place of so many from a number on -/
def splice {α : Type} (xs : List α) (n m : Nat) (new : List α) : List α := xs.take n ++ new ++ xs.drop (n + m)
theorem RowsAt.splice {K : PySem.W.Frag} {H : Hp} {as bs : List Addr} {rows new : List (List Str)} {n m : Nat} (p : RowsAt K H as rows) (q : RowsAt K H bs new) : RowsAt K H (splice as n m bs) (splice rows n m new) := ((p.take n).app q).app (p.drop (n + m))
theorem splice_len {α : Type} {xs new : List α} {n m : Nat} (h : n + m ≤ xs.length) : (splice xs n m new).length = xs.length - m + new.length := by
  unfold splice
  rw [List.length_append, List.length_append, List.length_take, List.length_drop]
  omega
/-- the deeds that stand, the last one first: where, how many rows it laid, and those that were there; the pages ahead of them -/
def PastAt (K : PySem.W.Frag) (H : Hp) (rl dl : Addr) (av : Addr → Prop) : List Addr → List Addr → List (List (List Str)) → Prop
  | _, [], [] => True
  | as, t :: ts, rows :: ps => (∃ (n m : Nat) (oas : List Addr) (l : Addr), H t = some (.tup [.int (n : Nat), .int (m : Nat), .ref l]) ∧ H l = some (.lst (oas.map V.ref)) ∧ l ≠ rl ∧ l ≠ dl ∧ ¬ av l ∧ n + m ≤ as.length ∧ oas.length ≤ 30 ∧ RowsAt K H (splice as n m oas) rows ∧ PgOk rows ∧ PastAt K H rl dl av (splice as n m oas) ts ps)
  | _, _, _ => False
theorem PastAt.gw {K : PySem.W.Frag} {H H' : Hp} {rl dl : Addr} {av : Addr → Prop} (x : LamX.ExtN H H') : ∀ {ts : List Addr} {as : List Addr} {ps : List (List (List Str))}, PastAt K H rl dl av as ts ps → PastAt K H' rl dl av as ts ps
  | [], _, [], _ => by unfold PastAt; trivial
  | [], _, _ :: _, h => by unfold PastAt at h; exact h.elim
  | _ :: _, _, [], h => by unfold PastAt at h; exact h.elim
  | t :: ts, as, rows :: ps, h => by
    unfold PastAt at h ⊢
    obtain ⟨n, m, oas, l, g1, g2, g3, g4, ga, g5, g6, g7, g8, g9⟩ := h
    exact ⟨n, m, oas, l, x _ _ g1 (fun ps z => by cases z), x _ _ g2 (fun ps z => by cases z), g3, g4, ga, g5, g6, g7.gw x, g8, PastAt.gw x g9⟩
theorem PastAt.len {K : PySem.W.Frag} {H : Hp} {rl dl : Addr} {av : Addr → Prop} : ∀ {ts : List Addr} {as : List Addr} {ps : List (List (List Str))}, PastAt K H rl dl av as ts ps → ts.length = ps.length
  | [], _, [], _ => rfl
  | [], _, _ :: _, h => by unfold PastAt at h; exact h.elim
  | _ :: _, _, [], h => by unfold PastAt at h; exact h.elim
  | t :: ts, as, rows :: ps, h => by
    unfold PastAt at h
    obtain ⟨n, m, oas, l, g1, g2, g3, g4, ga, g5, g6, g7, g8, g9⟩ := h
    rw [List.length_cons, List.length_cons, PastAt.len g9]
theorem PastAt.more {K : PySem.W.Frag} {H : Hp} {rl dl D : Addr} {av : Addr → Prop} (n : H D = none) : ∀ {ts : List Addr} {as : List Addr} {ps : List (List (List Str))}, PastAt K H rl dl av as ts ps → PastAt K H rl dl (fun x => av x ∨ x = D) as ts ps
  | [], _, [], _ => by unfold PastAt; trivial
  | [], _, _ :: _, h => by unfold PastAt at h; exact h.elim
  | _ :: _, _, [], h => by unfold PastAt at h; exact h.elim
  | t :: ts, as, rows :: ps, h => by
    unfold PastAt at h ⊢
    obtain ⟨n', m, oas, l, g1, g2, g3, g4, ga, g5, g6, g7, g8, g9⟩ := h
    exact ⟨n', m, oas, l, g1, g2, g3, g4, (fun q => q.elim ga fun e => by rw [e, n] at g2; cases g2), g5, g6, g7, g8, PastAt.more n g9⟩
/-- objects that stand and are no tables -/
def Live (H : Hp) (av : Addr → Prop) : Prop := ∀ x, av x → ∃ o, H x = some o ∧ ∀ ps, o ≠ .tbl ps
structure ShtD (K : PySem.W.Frag) (S : Addr) (H : Hp) (sh rl dl st : Addr) (as : List Addr) (rows : List (List Str)) (gap least : Int) (ts : List Addr) (ps : List (List (List Str))) (av : Addr → Prop) : Prop where
  she : ∃ dx, H sh = some (.ins S dx [("rows", .ref rl), ("style", .ref st), ("deeds", .ref dl)])
  rl_ : H rl = some (.lst (as.map V.ref))
  dl_ : H dl = some (.lst (ts.reverse.map V.ref))
  ne : rl ≠ dl
  at_ : RowsAt K H as rows
  ok : PgOk rows
  style : StyleAt K H st gap least
  past : PastAt K H rl dl av as ts ps
  live : Live H av
section
variable {K : PySem.W.Frag} {S sh rl dl st : Addr} {H H' : Hp} {as : List Addr} {rows : List (List Str)} {gap least : Int} {ts : List Addr} {ps : List (List (List Str))} {av : Addr → Prop}
theorem ShtD.gw (o : ShtD K S H sh rl dl st as rows gap least ts ps av) (x : LamX.ExtN H H') : ShtD K S H' sh rl dl st as rows gap least ts ps av := by
  obtain ⟨dx, h1⟩ := o.she
  exact ⟨⟨dx, x _ _ h1 fun ps z => by cases z⟩, x _ _ o.rl_ (fun ps z => by cases z), x _ _ o.dl_ (fun ps z => by cases z), o.ne, o.at_.gw x, o.ok, o.style.gwN x, o.past.gw x, fun y hy => by
    obtain ⟨u, e, n⟩ := o.live y hy
    exact ⟨u, x _ _ e n, n⟩⟩
theorem ShtD.new {D : Addr} {xs : List V} (o : ShtD K S H sh rl dl st as rows gap least ts ps av) (n : H D = none) (x : LamX.ExtN H H') (hD : H' D = some (.lst xs)) : ShtD K S H' sh rl dl st as rows gap least ts ps (fun y => av y ∨ y = D) := by
  have o2 := o.gw x
  exact ⟨o2.she, o2.rl_, o2.dl_, o2.ne, o2.at_, o2.ok, o2.style, (o.past.more n).gw x, fun y hy => by
    rcases hy with q | q
    · exact o2.live y q
    · exact ⟨.lst xs, by rw [q]; exact hD, fun ps z => by cases z⟩⟩
theorem ShtD.page (o : ShtD K S H sh rl dl st as rows gap least ts ps av) : PageAt K H rl as rows := ⟨SqL.of o.rl_, o.at_.len, o.at_.row⟩
end
section
variable {P : Program} {w : World} {K : PySem.W.Frag} {mg : Str → Option Value} {base : Heap} {cs : List (Addr × Addr)} {S : Addr}
end
end TGK
namespace TGK
open TG
open PySem PySem.Spec PyProof.Rows L2 Gx EnT
section
variable {P : Program} {w : World} {K : PySem.W.Frag} {mg : Str → Option Value} {base : Heap} {cs : List (Addr × Addr)} {S R C G : Addr}
end
end TGK
namespace TGK
open TG
open PySem PySem.Spec PyProof.Rows L2 Gx EnT
section
variable {X : Cx} {CX : CXT} {k : Nat} {f C : Addr} {fd : FuncData} {ps : List Str} {sp : Sp} {E : L2.St → XK} {x m : Str} {p pos apos : Pos} {e o : Expr} {es : List Expr} {ta : TE} {t : L2.TA}
end
inductive Deed where
  | put (n : Nat) (r : List Str)
  | take (n : Nat)
  | change (n : Nat) (r : List Str)
  | strike (n c k : Nat) (z : Str)
  | erase (n c k : Nat)
  | part (n c k : Nat)
  | unite (n : Nat)
  | back
abbrev rowN (rows : List (List Str)) (n : Nat) : List Str := rows.getD n []
/-- where a deed lays how many rows anew, and which; none, where it is refused ahead -/
def cutD (rows : List (List Str)) : Deed → Option (Nat × Nat × List (List Str))
  | .put n r => some (n, 0, [r])
  | .take n => some (n, 1, [])
  | .change n r => some (n, 1, [r])
  | .strike n c k z => some (n, 1, [if z = tabS then halvA (rowN rows n) c k ++ halvB (rowN rows n) c k else joinR (joinR (halvA (rowN rows n) c k) [z]) (halvB (rowN rows n) c k)])
  | .erase n c k => (lessR (halvB (rowN rows n) c k)).map fun b => (n, 1, [joinR (halvA (rowN rows n) c k) b])
  | .part n c k => some (n, 1, [halvA (rowN rows n) c k, halvB (rowN rows n) c k])
  | .unite n => if n + 1 < rows.length then some (n, 2, [joinR (rowN rows n) (rowN rows (n + 1))]) else none
  | .back => none
/-- a place of a cell -/
structure PlOk (rows : List (List Str)) (n c k : Nat) : Prop where
  n_ : n < rows.length
  c_ : c < (rowN rows n).length
  k_ : k ≤ ((rowN rows n).getD c nilS).length
theorem rowN_ok {rows : List (List Str)} {n : Nat} (hO : PgOk rows) (h : n < rows.length) : RowOk (rowN rows n) := by
  unfold rowN
  rw [List.getD_eq_getElem?_getD, List.getElem?_eq_getElem h]
  exact hO.rows _ (List.getElem_mem h)
section
variable {P : Program} {w : World} {K : PySem.W.Frag} {mg : Str → Option Value} {base : Heap} {cs : List (Addr × Addr)} {S R C G : Addr}
end
end TGK
namespace TGK
open TG
open PySem PySem.Spec PyProof.Rows L2 Gx EnT
section
variable {P : Program} {w : World} {K : PySem.W.Frag} {mg : Str → Option Value} {base : Heap} {cs : List (Addr × Addr)} {S R C G : Addr}
end
end TGK
namespace TGK
open TG
open PySem PySem.Spec PyProof.Rows L2 Gx EnT
section
variable {P : Program} {w : World} {K : PySem.W.Frag} {mg : Str → Option Value} {base : Heap} {cs : List (Addr × Addr)}
end
end TGK
namespace TGK
open TG
open PySem PySem.Spec PyProof.Rows L2 Gx EnT
/-- all but some lists and objects stays -/
def KM (A : Addr → Prop) (H H' : Hp) : Prop := ∀ c o, H c = some o → (∀ ps, o ≠ .tbl ps) → ¬ A c → H' c = some o
def Mob (H : Hp) (A : Addr → Prop) : Prop := ∀ c, A c → (∃ us, H c = some (.lst us)) ∨ (∃ C dx fs, H c = some (.ins C dx fs))
section
variable {K : PySem.W.Frag} {A B : Addr → Prop} {H H1 H' : Hp}
def KN (cs : List (Addr × Addr)) (A : Addr → Prop) (H H' : Hp) : Prop := ∀ c o, H c = some o → NT cs c o → ¬ A c → H' c = some o
theorem KN.w {cs : List (Addr × Addr)} (x : KN cs A H H') : KM A H H' := fun c o h n m => x c o h (.inl n) m
theorem KN.of {cs : List (Addr × Addr)} (x : XN cs H H') : KN cs A H H' := fun c o h n _ => x c o h n
theorem KM.of (x : LamX.ExtN H H') : KM A H H' := fun c o h n _ => x c o h n
theorem Mob.km (m : Mob H B) (x : KM A H H') (a : Mob H' A) : Mob H' B := fun c hc => by
  by_cases q : A c
  · exact a c q
  · rcases m c hc with ⟨us, e⟩ | ⟨C, dx, fs, e⟩
    · exact .inl ⟨us, x _ _ e (fun ps z => by cases z) q⟩
    · exact .inr ⟨C, dx, fs, x _ _ e (fun ps z => by cases z) q⟩
theorem Mob.gw (m : Mob H A) (x : LamX.ExtN H H') : Mob H' A := fun c hc => by
  rcases m c hc with ⟨us, e⟩ | ⟨C, dx, fs, e⟩
  · exact .inl ⟨us, x _ _ e fun ps z => by cases z⟩
  · exact .inr ⟨C, dx, fs, x _ _ e fun ps z => by cases z⟩
theorem Mob.live (m : Mob H A) : Live H A := fun c hc => by
  rcases m c hc with ⟨us, e⟩ | ⟨C, dx, fs, e⟩
  · exact ⟨_, e, fun ps z => by cases z⟩
  · exact ⟨_, e, fun ps z => by cases z⟩
theorem sqT_km {t : Addr} {xs : List V} (x : KM A H H') (m : Mob H A) (h : SqT K H t xs) : SqT K H' t xs := by
  rcases h with (h | ⟨u, h⟩) | h
  · refine .inl (.inl (x _ _ h (fun ps z => by cases z) fun z => ?_))
    rcases m _ z with ⟨us, e⟩ | ⟨C, dx, fs, e⟩ <;> rw [e] at h <;> cases h
  · refine .inl (.inr ⟨u, x _ _ h (fun ps z => by cases z) fun z => ?_⟩)
    rcases m _ z with ⟨us, e⟩ | ⟨C, dx, fs, e⟩ <;> rw [e] at h <;> cases h
  · exact .inr h
theorem tup_km {t : Addr} {xs : List V} (x : KM A H H') (m : Mob H A) (h : H t = some (.tup xs)) : H' t = some (.tup xs) :=
  x _ _ h (fun ps z => by cases z) fun z => by
    rcases m _ z with ⟨us, e⟩ | ⟨C, dx, fs, e⟩ <;> rw [e] at h <;> cases h
theorem RowsAt.km {as : List Addr} {rows : List (List Str)} (x : KM A H H') (m : Mob H A) (p : RowsAt K H as rows) : RowsAt K H' as rows := ⟨p.len, fun i q r e1 e2 => sqT_km x m (p.row i q r e1 e2)⟩
theorem PastAt.km {rl dl : Addr} {av : Addr → Prop} (x : KM A H H') (m : Mob H A) (h : ∀ c us, A c → H c = some (.lst us) → av c) : ∀ {ts : List Addr} {as : List Addr} {ps : List (List (List Str))}, PastAt K H rl dl av as ts ps → PastAt K H' rl dl av as ts ps
  | [], _, [], _ => by unfold PastAt; trivial
  | [], _, _ :: _, h => by unfold PastAt at h; exact h.elim
  | _ :: _, _, [], h => by unfold PastAt at h; exact h.elim
  | t :: ts, as, rows :: ps, g => by
    unfold PastAt at g ⊢
    obtain ⟨n, k, oas, lo, g1, g2, g3, g4, ga, g5, g6, g7, g8, g9⟩ := g
    exact ⟨n, k, oas, lo, tup_km x m g1, x _ _ g2 (fun ps z => by cases z) (fun z => ga (h _ _ z g2)), g3, g4, ga, g5, g6, g7.km x m, g8, PastAt.km x m h g9⟩
end
section
variable {K : PySem.W.Frag} {S : Addr} {A : Addr → Prop} {H H' : Hp} {sh rl dl st : Addr} {as : List Addr} {rows : List (List Str)} {gap least : Int} {ts : List Addr} {ps : List (List (List Str))} {av av2 : Addr → Prop}
theorem ShtD.km (o : ShtD K S H sh rl dl st as rows gap least ts ps av) (x : KM A H H') (m : Mob H A) (m' : Mob H' A) (h : ∀ c us, A c → H c = some (.lst us) → av c) (n1 : ¬ A sh) (n2 : ¬ A rl) (n3 : ¬ A dl) : ShtD K S H' sh rl dl st as rows gap least ts ps av := by
  obtain ⟨dx, h1⟩ := o.she
  refine ⟨⟨dx, x _ _ h1 (fun ps z => by cases z) n1⟩, x _ _ o.rl_ (fun ps z => by cases z) n2, x _ _ o.dl_ (fun ps z => by cases z) n3, o.ne, o.at_.km x m, o.ok, ⟨sqT_km x m o.style.tup, o.style.g0, o.style.g1, o.style.l0, o.style.l1⟩, o.past.km x m h, fun y hy => ?_⟩
  by_cases q : A y
  · exact m'.live y q
  · obtain ⟨u, e, k⟩ := o.live y hy
    exact ⟨u, x _ _ e k q, k⟩
end
structure CurD (K : PySem.W.Frag) (U S : Addr) (H : Hp) (cu sh rl dl st : Addr) (as : List Addr) (rows : List (List Str)) (gap least : Int) (ts : List Addr) (ps : List (List (List Str))) (av : Addr → Prop) (p : Nat × Nat × Nat) : Prop where
  cur : ∃ dx sp, H cu = some (.ins U dx [("sheet", .ref sh), ("spot", .ref sp)]) ∧ SqT K H sp (v3 p)
  sht : ShtD K S H sh rl dl st as rows gap least ts ps av
  mem : p ∈ pageSp rows
/-- all but a cursor, its rows and its deeds stays -/
abbrev ofCur (cu rl dl : Addr) : Addr → Prop := fun c => c = cu ∨ c = rl ∨ c = dl
def ExtC (cs : List (Addr × Addr)) (cu : Addr) (H H' : Hp) : Prop := ∀ b o, H b = some o → NT cs b o → b ≠ cu → H' b = some o
theorem ExtC.of {cs : List (Addr × Addr)} {cu : Addr} {H H' : Hp} (x : XN cs H H') : ExtC cs cu H H' := fun b o h n _ => x b o h n
theorem ExtC.gw {cs : List (Addr × Addr)} {cu : Addr} {H H1 H' : Hp} (x : ExtC cs cu H H1) (y : XN cs H1 H') : ExtC cs cu H H' := fun b o h n m => y b o (x b o h n m) n
theorem ExtC.km {cs : List (Addr × Addr)} {cu rl dl : Addr} {H H' : Hp} (x : ExtC cs cu H H') : KN cs (ofCur cu rl dl) H H' := fun c o h n m => x c o h n fun z => m (.inl z)
theorem ExtS.km {cs : List (Addr × Addr)} {cu rl dl : Addr} {H H' : Hp} (x : ExtS cs rl dl H H') : KN cs (ofCur cu rl dl) H H' := fun c o h n m => x c o h n (fun z => m (.inr (.inl z))) fun z => m (.inr (.inr z))
section
variable {K : PySem.W.Frag} {U S cu sh rl dl st : Addr} {H H' : Hp} {as : List Addr} {rows : List (List Str)} {gap least : Int} {ts : List Addr} {ps : List (List (List Str))} {av : Addr → Prop} {p : Nat × Nat × Nat} {A : Addr → Prop}
theorem CurD.gw (o : CurD K U S H cu sh rl dl st as rows gap least ts ps av p) (x : LamX.ExtN H H') : CurD K U S H' cu sh rl dl st as rows gap least ts ps av p := by
  obtain ⟨dx, sp, h1, h2⟩ := o.cur
  refine ⟨⟨dx, sp, x _ _ h1 (fun ps z => by cases z), ?_⟩, o.sht.gw x, o.mem⟩
  rcases h2 with (h | ⟨u, h⟩) | h
  · exact .inl (.inl (x _ _ h fun ps z => by cases z))
  · exact .inl (.inr ⟨u, x _ _ h fun ps z => by cases z⟩)
  · exact .inr h
theorem CurD.km (o : CurD K U S H cu sh rl dl st as rows gap least ts ps av p) (x : KM A H H') (m : Mob H A) (m' : Mob H' A) (h : ∀ c us, A c → H c = some (.lst us) → av c) (n0 : ¬ A cu) (n1 : ¬ A sh) (n2 : ¬ A rl) (n3 : ¬ A dl) : CurD K U S H' cu sh rl dl st as rows gap least ts ps av p := by
  obtain ⟨dx, sp, h1, h2⟩ := o.cur
  exact ⟨⟨dx, sp, x _ _ h1 (fun ps z => by cases z) n0, sqT_km x m h2⟩, o.sht.km x m m' h n1 n2 n3, o.mem⟩
theorem ins_mob {C dx : Addr} {fs : List (Str × V)} (h : H cu = some (.ins C dx fs)) : Mob H (fun c => c = cu) := fun c hc => .inr ⟨_, _, _, hc ▸ h⟩
theorem ExtC.km1 {cs : List (Addr × Addr)} (x : ExtC cs cu H H') : KM (fun c => c = cu) H H' := fun c o h n m => x c o h (.inl n) m
/-- the cursor itself changes -/
theorem ShtD.but {C dx dx' : Addr} {fs fs' : List (Str × V)} (o : ShtD K S H sh rl dl st as rows gap least ts ps av) {cs : List (Addr × Addr)} (x : ExtC cs cu H H') (hc : H cu = some (.ins C dx fs)) (hc' : H' cu = some (.ins C dx' fs')) (n : sh ≠ cu) : ShtD K S H' sh rl dl st as rows gap least ts ps av :=
  o.km x.km1 (ins_mob hc) (ins_mob hc') (fun c us e h => by rw [e, hc] at h; cases h) n (fun z => by have := o.rl_; rw [z, hc] at this; cases this) fun z => by have := o.dl_; rw [z, hc] at this; cases this
end
/-- where so many places on are -/
def besideR (rows : List (List Str)) (p : Nat × Nat × Nat) (by_ : Int) : Option (Nat × Nat × Nat) :=
  let n := (((pageSp rows).idxOf p : Nat) : Int) + by_
  if 0 ≤ n ∧ n < ((pageSp rows).length : Nat) then (pageSp rows)[n.toNat]? else none
theorem idx_eq {l : List (Nat × Nat × Nat)} {p : Nat × Nat × Nat} (h : p ∈ l) : l[l.idxOf p]? = some p ∧ l.idxOf p < l.length ∧ ∀ m z, m < l.idxOf p → l[m]? = some z → z ≠ p := by
  have h1 := List.idxOf_lt_length_iff.mpr h
  refine ⟨by rw [List.getElem?_eq_getElem h1, List.getElem_idxOf], h1, fun m z hm hz e => ?_⟩
  subst e
  have hm2 : m < l.length := by omega
  have e2 : l[m] = z := by rw [List.getElem?_eq_getElem hm2] at hz; exact Option.some.inj hz
  have := List.not_of_lt_findIdx (p := (· == z)) (xs := l) (i := m) (by exact hm)
  simp [e2] at this
end TGK
namespace TGK
open TG
open PySem PySem.Spec PyProof.Rows L2 Gx EnT
section
variable {P : Program} {w : World} {K : PySem.W.Frag} {mg : Str → Option Value} {base : Heap} {cs : List (Addr × Addr)} {U S : Addr}
end
end TGK
namespace TGK
open TG
open PySem PySem.Spec PyProof.Rows L2 Gx EnT
theorem joinR_one {a : List Str} {x y : Str} {b : List Str} : joinR (a ++ [x]) (y :: b) = a ++ [x ++ y] ++ b := by
  unfold joinR
  simp
theorem lessR_ne {x : Str} {b : List Str} (h : x ≠ nilS) : lessR (x :: b) = some (zD x 1 :: b) := by
  unfold lessR
  exact if_pos (show (x :: b).headD nilS ≠ nilS from h)
theorem lessR_more {x : Str} {b : List Str} : lessR (nilS :: x :: b) = some (x :: b) := by
  unfold lessR
  rw [if_neg (show ¬ ((nilS :: x :: b).headD nilS ≠ nilS) from fun z => z rfl), if_neg (show ¬ (nilS :: x :: b).length = 1 by simp)]
  rfl
theorem zT_all {z : Str} : zT z z.length = z := str_ext (by rw [cl_zT, len_clz, List.take_length])
theorem zD_all {z : Str} {k : Nat} (h : z.length ≤ k) : zD z k = nilS := str_ext (by rw [cl_zD, List.drop_eq_nil_of_le (by rw [← len_clz]; exact h)])
theorem zD_one {z : Str} {k : Nat} : zD (zD z k) 1 = zD z (k + 1) := str_ext (by rw [cl_zD, cl_zD, cl_zD, List.drop_drop])
theorem zD_ne {z : Str} {k : Nat} (h : k < z.length) : zD z k ≠ nilS := fun e => by
  have := congrArg (fun y : Str => (cl y).length) e
  simp only [cl_zD, List.length_drop] at this
  rw [← len_clz] at this
  have h0 : (cl nilS).length = 0 := rfl
  omega
/-- a row's cells behind a sign typed, or erased -/
def cellsR (r : List Str) (c k : Nat) : Option Str → Option (List Str)
  | some z => some (if z = tabS then halvA r c k ++ halvB r c k else joinR (joinR (halvA r c k) [z]) (halvB r c k))
  | none => (lessR (halvB r c k)).map fun b => joinR (halvA r c k) b
theorem cells_tab (r : List Str) (c k : Nat) : cellsR r c k (some tabS) = some (r.take c ++ [zT (r.getD c nilS) k, zD (r.getD c nilS) k] ++ r.drop (c + 1)) := by
  unfold cellsR halvA halvB
  simp
theorem cells_sign {r : List Str} {c k : Nat} {z : Str} (h : z ≠ tabS) : cellsR r c k (some z) = some (r.take c ++ [zT (r.getD c nilS) k ++ z ++ zD (r.getD c nilS) k] ++ r.drop (c + 1)) := by
  unfold cellsR
  simp only
  rw [if_neg h]
  unfold halvA halvB
  rw [joinR_one, List.append_nil, joinR_one]
theorem cells_in {r : List Str} {c k : Nat} (h : k < (r.getD c nilS).length) : cellsR r c k none = some (r.take c ++ [zT (r.getD c nilS) k ++ zD (r.getD c nilS) (k + 1)] ++ r.drop (c + 1)) := by
  have e : lessR (halvB r c k) = some (zD (r.getD c nilS) (k + 1) :: r.drop (c + 1)) := by
    unfold halvB
    rw [lessR_ne (zD_ne h), zD_one]
  unfold cellsR
  simp only
  rw [e, Option.map_some]
  unfold halvA
  rw [joinR_one]
theorem cells_join {r : List Str} {c k : Nat} (hk : k = (r.getD c nilS).length) (hc : c + 1 < r.length) : cellsR r c k none = some (r.take c ++ [r.getD c nilS ++ r.getD (c + 1) nilS] ++ r.drop (c + 2)) := by
  have e : lessR (halvB r c k) = some (r.drop (c + 1)) := by
    unfold halvB
    rw [zD_all (Nat.le_of_eq hk.symm), List.drop_eq_getElem_cons hc]
    exact lessR_more
  unfold cellsR
  simp only
  rw [e, Option.map_some]
  have e2 : r.drop (c + 1) = r.getD (c + 1) nilS :: r.drop (c + 2) := by
    rw [List.drop_eq_getElem_cons hc, List.getD_eq_getElem?_getD, List.getElem?_eq_getElem hc]
    rfl
  rw [e2]
  unfold halvA
  rw [joinR_one, hk, zT_all]
theorem rowTo_len {r : List Str} {c : Nat} : (rowTo r (c + 1)).length = (rowTo r c).length + (r.getD c nilS).length + 1 := by
  rw [rowTo_succ, List.length_append, List.length_map, List.length_range]
  omega
theorem rowTo_get {r : List Str} {m i : Nat} (h : i < (rowTo r m).length) : ∀ {n : Nat}, m ≤ n → (rowTo r n)[i]? = (rowTo r m)[i]?
  | 0, hn => by rw [show m = 0 by omega]
  | n + 1, hn => by
    by_cases q : m = n + 1
    · rw [q]
    · have ih := rowTo_get h (n := n) (by omega)
      rw [rowTo_succ, List.getElem?_append_left]
      · exact ih
      · rw [List.getElem?_eq_getElem h] at ih
        exact (List.getElem?_eq_some_iff.mp ih).1
theorem row_at {r : List Str} {c k : Nat} (hc : c < r.length) (hk : k ≤ (r.getD c nilS).length) : (rowSp r)[(rowTo r c).length + k]? = some (c, k) := by
  have e : rowSp r = rowTo r r.length := rfl
  have l := rowTo_len (r := r) (c := c)
  rw [e, rowTo_get (m := c + 1) (by omega) (by omega), rowTo_succ, List.getElem?_append_right (by omega), Nat.add_sub_cancel_left, List.getElem?_map, List.getElem?_range (by omega)]
  rfl
theorem pageTo_len {rows : List (List Str)} {n : Nat} : (pageTo rows (n + 1)).length = (pageTo rows n).length + (rowSp (rows.getD n [])).length := by
  rw [pageTo_succ, List.length_append, List.length_map]
theorem pageTo_get {rows : List (List Str)} {m i : Nat} (h : i < (pageTo rows m).length) : ∀ {n : Nat}, m ≤ n → (pageTo rows n)[i]? = (pageTo rows m)[i]?
  | 0, hn => by rw [show m = 0 by omega]
  | n + 1, hn => by
    by_cases q : m = n + 1
    · rw [q]
    · have ih := pageTo_get h (n := n) (by omega)
      rw [pageTo_succ, List.getElem?_append_left]
      · exact ih
      · rw [List.getElem?_eq_getElem h] at ih
        exact (List.getElem?_eq_some_iff.mp ih).1
def idxP (rows : List (List Str)) (n c k : Nat) : Nat := (pageTo rows n).length + ((rowTo (rows.getD n []) c).length + k)
theorem page_at {rows : List (List Str)} {n c k : Nat} (hn : n < rows.length) (hc : c < (rows.getD n []).length) (hk : k ≤ ((rows.getD n []).getD c nilS).length) : (pageSp rows)[idxP rows n c k]? = some (n, c, k) := by
  have e : pageSp rows = pageTo rows rows.length := rfl
  have h := row_at hc hk
  have l := pageTo_len (rows := rows) (n := n)
  have hl := (List.getElem?_eq_some_iff.mp h).1
  unfold idxP
  rw [e, pageTo_get (m := n + 1) (by omega) (by omega), pageTo_succ, List.getElem?_append_right (by omega), Nat.add_sub_cancel_left, List.getElem?_map, h]
  rfl
theorem idx_of {l : List (Nat × Nat × Nat)} {p : Nat × Nat × Nat} {i : Nat} (nd : l.Nodup) (h : l[i]? = some p) : l.idxOf p = i := by
  obtain ⟨h1, h2, h3⟩ := idx_eq (List.mem_of_getElem? h)
  obtain ⟨hi, e1⟩ := List.getElem?_eq_some_iff.mp h
  obtain ⟨hj, e2⟩ := List.getElem?_eq_some_iff.mp h1
  have np := List.pairwise_iff_getElem.mp nd
  rcases Nat.lt_trichotomy (l.idxOf p) i with q | q | q
  · exact absurd (e2.trans e1.symm) (np _ _ hj hi q)
  · exact q
  · exact absurd rfl (h3 i p q h)
theorem beside_on {rows : List (List Str)} {p q : Nat × Nat × Nat} {i : Nat} (hp : (pageSp rows)[i]? = some p) (hq : (pageSp rows)[i + 1]? = some q) : besideR rows p 1 = some q ∧ besideR rows q (-1) = some p := by
  have nd := pageSp_nd rows
  have hl := (List.getElem?_eq_some_iff.mp hq).1
  unfold besideR
  rw [idx_of nd hp, idx_of nd hq]
  constructor
  · simp only
    rw [if_pos ⟨by omega, by omega⟩, show (((i : Nat) : Int) + 1).toNat = i + 1 by omega, hq]
  · simp only
    rw [if_pos ⟨by omega, by omega⟩, show (((i + 1 : Nat) : Int) + -1).toNat = i by omega, hp]
abbrev lineS : Str := "\n"
def doneR (rows : List (List Str)) (d : Deed) : Option (List (List Str)) := (cutD rows d).bind fun q => if fitsR ((rows.length : Nat) - (q.2.1 : Nat) + (q.2.2.length : Nat)) q.2.2 = true then some (splice rows q.1 q.2.1 q.2.2) else none
def pressD (p : Nat × Nat × Nat) (z : Str) : Deed := if z = lineS then .part p.1 p.2.1 p.2.2 else .strike p.1 p.2.1 p.2.2 z
def nextP (p : Nat × Nat × Nat) (z : Str) : Nat × Nat × Nat := if z = lineS then (p.1 + 1, 0, 0) else if z = tabS then (p.1, p.2.1 + 1, 0) else (p.1, p.2.1, p.2.2 + 1)
def rubD (p q : Nat × Nat × Nat) : Deed := if q.1 < p.1 then .unite q.1 else .erase q.1 q.2.1 q.2.2
theorem pl_of {rows : List (List Str)} {n c k : Nat} (h : (n, c, k) ∈ pageSp rows) : PlOk rows n c k := by
  obtain ⟨h1, h2⟩ := mem_pageSp.mp h
  obtain ⟨h3, h4⟩ := mem_rowSp.mp h2
  exact ⟨h1, h3, h4⟩
end TGK
namespace TGK
open TG
open PySem PySem.Spec PyProof.Rows L2 Gx EnT
section
variable {P : Program} {w : World} {K : PySem.W.Frag} {mg : Str → Option Value} {base : Heap} {cs : List (Addr × Addr)} {U S R C G : Addr}
end
end TGK
namespace TGK
open TG
open PySem PySem.Spec PyProof.Rows L2 Gx EnT
section
variable {P : Program} {w : World} {K : PySem.W.Frag} {mg : Str → Option Value} {base : Heap} {cs : List (Addr × Addr)} {S R C G : Addr}
end
end TGK
namespace TGK
open TG
open PySem PySem.Spec PyProof.Rows L2 Gx EnT
section
variable {rows : List (List Str)} {n c k : Nat}
/-- inside a cell -/
theorem back_in (pl : PlOk rows n c (k + 1)) : besideR rows (n, c, k + 1) (-1) = some (n, c, k) := by
  obtain ⟨h1, h2, h3⟩ := pl
  have a := page_at (rows := rows) (n := n) (c := c) (k := k) h1 h2 (by have : k + 1 ≤ ((rows.getD n []).getD c nilS).length := h3; omega)
  have b := page_at (rows := rows) (n := n) (c := c) (k := k + 1) h1 h2 h3
  have e : idxP rows n c (k + 1) = idxP rows n c k + 1 := by unfold idxP; omega
  rw [e] at b
  exact (beside_on a b).2
/-- a cell's begin -/
theorem back_cell (pl : PlOk rows n (c + 1) 0) : besideR rows (n, c + 1, 0) (-1) = some (n, c, ((rowN rows n).getD c nilS).length) := by
  obtain ⟨h1, h2, _⟩ := pl
  have h2 : c + 1 < (rows.getD n []).length := h2
  have a := page_at (rows := rows) (n := n) (c := c) (k := ((rows.getD n []).getD c nilS).length) h1 (by omega) (Nat.le_refl _)
  have b := page_at (rows := rows) (n := n) (c := c + 1) (k := 0) h1 h2 (Nat.zero_le _)
  have e : idxP rows n (c + 1) 0 = idxP rows n c ((rows.getD n []).getD c nilS).length + 1 := by
    unfold idxP
    rw [rowTo_len]
    omega
  rw [e] at b
  exact (beside_on a b).2
/-- a row's begin -/
theorem back_row (h1 : n + 1 < rows.length) (p0 : 1 ≤ (rowN rows n).length) (p1 : 1 ≤ (rowN rows (n + 1)).length) : besideR rows (n + 1, 0, 0) (-1) = some (n, (rowN rows n).length - 1, ((rowN rows n).getD ((rowN rows n).length - 1) nilS).length) := by
  have p0 : 1 ≤ (rows.getD n []).length := p0
  have a := page_at (rows := rows) (n := n) (c := (rows.getD n []).length - 1) (k := ((rows.getD n []).getD ((rows.getD n []).length - 1) nilS).length) (by omega) (by omega) (Nat.le_refl _)
  have b := page_at (rows := rows) (n := n + 1) (c := 0) (k := 0) h1 p1 (Nat.zero_le _)
  have e : idxP rows (n + 1) 0 0 = idxP rows n ((rows.getD n []).length - 1) ((rows.getD n []).getD ((rows.getD n []).length - 1) nilS).length + 1 := by
    unfold idxP
    have l := rowTo_len (r := rows.getD n []) (c := (rows.getD n []).length - 1)
    have e1 : (rows.getD n []).length - 1 + 1 = (rows.getD n []).length := by omega
    rw [e1] at l
    have e2 : (rowSp (rows.getD n [])).length = (rowTo (rows.getD n []) (rows.getD n []).length).length := rfl
    have e3 : (rowTo (rows.getD (n + 1) []) 0).length = 0 := rfl
    rw [pageTo_len, e2, l, e3]
    omega
  rw [e] at b
  exact (beside_on a b).2
/-- the page's begin -/
theorem back_none (h1 : 0 < rows.length) (p1 : 1 ≤ (rowN rows 0).length) : besideR rows (0, 0, 0) (-1) = none := by
  have b := page_at (rows := rows) (n := 0) (c := 0) (k := 0) h1 p1 (Nat.zero_le _)
  have e : idxP rows 0 0 0 = 0 := rfl
  rw [e] at b
  unfold besideR
  rw [idx_of (pageSp_nd rows) b]
  simp only
  exact if_neg fun z => by have := z.1; omega
end
end TGK
namespace TGK
open TG
open PySem PySem.Spec PyProof.Rows L2 Gx EnT
theorem cut_erase {rows : List (List Str)} {n c k : Nat} {r' : List Str} (er : cellsR (rowN rows n) c k none = some r') : cutD rows (.erase n c k) = some (n, 1, [r']) := by
  have e2 : cutD rows (.erase n c k) = (lessR (halvB (rowN rows n) c k)).map fun b => (n, 1, [joinR (halvA (rowN rows n) c k) b]) := rfl
  rw [e2]
  unfold cellsR at er
  cases e : lessR (halvB (rowN rows n) c k) with
  | none => simp only [e] at er; cases er
  | some b =>
    simp only [e, Option.map_some] at er ⊢
    injection er with er
    rw [er]
end TGK

namespace TG
open PySem PySem.Spec PyProof.Rows L2 NdefX GenW Gx Lv
/-! ### where a text ends: row, cell, place -/
def nxP (p : Nat × Nat × Nat) (x : Nat) : Nat × Nat × Nat := if x = 9 then (p.1, p.2.1 + 1, 0) else if x = 10 then (p.1 + 1, 0, 0) else (p.1, p.2.1, p.2.2 + 1)
def finP (p : Nat × Nat × Nat) (l : List Nat) : Nat × Nat × Nat := l.foldl nxP p
theorem fin_row : ∀ (l : List Nat) (r c k : Nat), finP (r + 1, c, k) l = ((finP (r, c, k) l).1 + 1, (finP (r, c, k) l).2)
  | [], _, _, _ => rfl
  | x :: l, r, c, k => by
    show finP (nxP (r + 1, c, k) x) l = ((finP (nxP (r, c, k) x) l).1 + 1, (finP (nxP (r, c, k) x) l).2)
    unfold nxP
    by_cases h9 : x = 9
    · rw [if_pos h9, if_pos h9]
      exact fin_row l r (c + 1) 0
    · rw [if_neg h9, if_neg h9]
      by_cases h10 : x = 10
      · rw [if_pos h10, if_pos h10]
        exact fin_row l (r + 1) 0 0
      · rw [if_neg h10, if_neg h10]
        exact fin_row l r c (k + 1)
theorem fin_go : ∀ (l : List Nat) (R : List (List Nat)) (C : List Nat), ∃ (g : List (List (List Nat))) (a : List (List Nat)) (b : List Nat), goR R C (l ++ [10]) = g ++ [a ++ [b]] ∧ finP (0, R.length, C.length) l = (g.length, a.length, b.length)
  | [], R, C => ⟨[], R, C, by show (R ++ [C]) :: goR [] [] [] = _; rfl, rfl⟩
  | x :: l, R, C => by
    by_cases h9 : x = 9
    · obtain ⟨g, a, b, e1, e2⟩ := fin_go l (R ++ [C]) []
      refine ⟨g, a, b, ?_, ?_⟩
      · show goR R C (x :: (l ++ [10])) = _
        unfold goR
        rw [if_pos h9]
        exact e1
      · show finP (nxP (0, R.length, C.length) x) l = _
        unfold nxP
        rw [if_pos h9, ← e2, List.length_append]
        rfl
    · by_cases h10 : x = 10
      · obtain ⟨g, a, b, e1, e2⟩ := fin_go l [] []
        refine ⟨(R ++ [C]) :: g, a, b, ?_, ?_⟩
        · show goR R C (x :: (l ++ [10])) = _
          unfold goR
          rw [if_neg h9, if_pos h10, e1]
          rfl
        · show finP (nxP (0, R.length, C.length) x) l = _
          unfold nxP
          rw [if_neg h9, if_pos h10]
          have := fin_row l 0 0 0
          have e2 : finP (0, 0, 0) l = (g.length, a.length, b.length) := e2
          rw [e2] at this
          exact this
      · obtain ⟨g, a, b, e1, e2⟩ := fin_go l R (C ++ [x])
        refine ⟨g, a, b, ?_, ?_⟩
        · show goR R C (x :: (l ++ [10])) = _
          unfold goR
          rw [if_neg h9, if_neg h10]
          exact e1
        · show finP (nxP (0, R.length, C.length) x) l = _
          unfold nxP
          rw [if_neg h9, if_neg h10, ← e2, List.length_append]
          rfl
/-- where a text ends, told of its rows -/
theorem at_fin (z : Str) : ((rowsT z).length - 1, ((rowsT z).getLast?.getD []).length - 1, (((rowsT z).getLast?.getD []).getLast?.getD "").length) = finP (0, 0, 0) (cl z) := by
  obtain ⟨g, a, b, e1, e2⟩ := fin_go (cl z) [] []
  rw [← rowsT_cl] at e1
  have e2 : finP (0, 0, 0) (cl z) = (g.length, a.length, b.length) := e2
  rw [e2]
  have l1 := congrArg List.length e1
  rw [List.length_map, List.length_append, List.length_singleton] at l1
  have g1 := congrArg List.getLast? e1
  rw [List.getLast?_map, List.getLast?_concat] at g1
  cases c : (rowsT z).getLast? with
  | none => rw [c] at g1; cases g1
  | some r =>
    rw [c] at g1
    have g1 : r.map cl = a ++ [b] := by simpa using g1
    have l2 := congrArg List.length g1
    rw [List.length_map, List.length_append, List.length_singleton] at l2
    have g2 := congrArg List.getLast? g1
    rw [List.getLast?_map, List.getLast?_concat] at g2
    cases d : r.getLast? with
    | none => rw [d] at g2; cases g2
    | some y =>
      rw [d] at g2
      have g2 : cl y = b := by simpa using g2
      show ((rowsT z).length - 1, r.length - 1, (r.getLast?.getD "").length) = _
      rw [d]
      show ((rowsT z).length - 1, r.length - 1, y.length) = _
      rw [l1, l2, len_cl, g2]
      rfl
end TG


namespace TG
open PySem PySem.Spec PyProof.Rows L2 NdefX GenW Gx Lv
/-! ### every place of a text, in turn -/
def posP : Nat × Nat × Nat → List Nat → List (Nat × Nat × Nat)
  | p, [] => [p]
  | p, x :: l => p :: posP (nxP p x) l
theorem posP_len : ∀ (l : List Nat) (p : Nat × Nat × Nat), (posP p l).length = l.length + 1
  | [], _ => rfl
  | _ :: l, _ => congrArg (· + 1) (posP_len l _)
theorem posP_get : ∀ (l : List Nat) (p : Nat × Nat × Nat) (i : Nat), i ≤ l.length → (posP p l)[i]? = some (finP p (l.take i))
  | [], p, i, h => by
    have : i = 0 := Nat.le_zero.mp h
    subst this
    rfl
  | x :: l, p, 0, _ => rfl
  | x :: l, p, i + 1, h => posP_get l (nxP p x) i (Nat.le_of_succ_le_succ h)
def cS (r c n : Nat) : List (Nat × Nat × Nat) := (List.range n).map fun k => (r, c, k)
def rS (r : Nat) : Nat → List (List Nat) → List (Nat × Nat × Nat)
  | _, [] => []
  | c, C :: cs => cS r c (C.length + 1) ++ rS r (c + 1) cs
def pS : Nat → List (List (List Nat)) → List (Nat × Nat × Nat)
  | _, [] => []
  | r, R :: rs => rS r 0 R ++ pS (r + 1) rs
theorem cS_succ (r c n : Nat) : cS r c (n + 1) = cS r c n ++ [(r, c, n)] := by
  unfold cS
  rw [List.range_succ, List.map_append]
  rfl
theorem rS_app (r : Nat) : ∀ (R : List (List Nat)) (c : Nat) (C : List Nat), rS r c (R ++ [C]) = rS r c R ++ cS r (c + R.length) (C.length + 1)
  | [], c, C => by
    show cS r c (C.length + 1) ++ [] = [] ++ cS r (c + 0) (C.length + 1)
    rw [List.append_nil, List.nil_append]
    rfl
  | D :: R, c, C => by
    show cS r c (D.length + 1) ++ rS r (c + 1) (R ++ [C]) = cS r c (D.length + 1) ++ rS r (c + 1) R ++ _
    rw [rS_app r R (c + 1) C, List.append_assoc]
    have e : c + 1 + R.length = c + (R.length + 1) := by omega
    rw [e]
    rfl
theorem pos_go : ∀ (l : List Nat) (r : Nat) (R : List (List Nat)) (C : List Nat), rS r 0 R ++ cS r R.length C.length ++ posP (r, R.length, C.length) l = pS r (goR R C (l ++ [10]))
  | [], r, R, C => by
    show _ ++ [(r, R.length, C.length)] = rS r 0 (R ++ [C]) ++ []
    rw [List.append_nil, rS_app, List.append_assoc, ← cS_succ, Nat.zero_add]
  | x :: l, r, R, C => by
    show rS r 0 R ++ cS r R.length C.length ++ ((r, R.length, C.length) :: posP (nxP (r, R.length, C.length) x) l) = pS r (goR R C (x :: (l ++ [10])))
    have e0 : ∀ t, rS r 0 R ++ cS r R.length C.length ++ ((r, R.length, C.length) :: t) = rS r 0 R ++ cS r R.length (C.length + 1) ++ t := fun t => by
      rw [cS_succ, List.append_assoc, List.append_assoc, List.append_assoc]
      rfl
    rw [e0]
    unfold goR nxP
    by_cases h9 : x = 9
    · rw [if_pos h9, if_pos h9, ← pos_go l r (R ++ [C]) [], rS_app, Nat.zero_add, List.length_append]
      show _ = _ ++ [] ++ _
      rw [List.append_nil]
      rfl
    · rw [if_neg h9, if_neg h9]
      by_cases h10 : x = 10
      · rw [if_pos h10, if_pos h10]
        show _ = rS r 0 (R ++ [C]) ++ pS (r + 1) (goR [] [] (l ++ [10]))
        rw [← pos_go l (r + 1) [] [], rS_app, Nat.zero_add]
        rfl
      · rw [if_neg h10, if_neg h10, ← pos_go l r R (C ++ [x]), List.length_append]
        rfl
theorem flat_cg {α β : Type} {l : List α} {f g : α → List β} (h : ∀ x ∈ l, f x = g x) : l.flatMap f = l.flatMap g := by
  rw [List.flatMap_def, List.flatMap_def, List.map_congr_left h]
theorem rS_flat (r : Nat) : ∀ (R : List (List Nat)) (c : Nat), rS r c R = (List.range R.length).flatMap fun i => cS r (c + i) ((R.getD i []).length + 1)
  | [], _ => rfl
  | C :: R, c => by
    show cS r c (C.length + 1) ++ rS r (c + 1) R = _
    rw [rS_flat r R (c + 1), List.length_cons, List.range_succ_eq_map, List.flatMap_cons, List.flatMap_map]
    congr 1
    refine flat_cg fun i _ => ?_
    have e : c + 1 + i = c + (i + 1) := by omega
    rw [e]
    rfl
theorem pS_flat : ∀ (rs : List (List (List Nat))) (r : Nat), pS r rs = (List.range rs.length).flatMap fun i => rS (r + i) 0 (rs.getD i [])
  | [], _ => rfl
  | R :: rs, r => by
    show rS r 0 R ++ pS (r + 1) rs = _
    rw [pS_flat rs (r + 1), List.length_cons, List.range_succ_eq_map, List.flatMap_cons, List.flatMap_map]
    congr 1
    refine flat_cg fun i _ => ?_
    have e : r + 1 + i = r + (i + 1) := by omega
    rw [e]
    rfl
/-- the places of a page, as the cursor's side tells them -/
theorem page_pS (rows : List (List Str)) : TGK.pageSp rows = pS 0 (rows.map (List.map cl)) := by
  rw [pS_flat, List.length_map]
  unfold TGK.pageSp
  refine flat_cg fun i hi => ?_
  have hi := List.mem_range.mp hi
  have e1 : (rows.map (List.map cl)).getD i [] = (rows.getD i []).map cl := by
    rw [List.getD_eq_getElem?_getD, List.getElem?_map, List.getD_eq_getElem?_getD, List.getElem?_eq_getElem hi]
    rfl
  rw [e1, rS_flat, List.length_map, Nat.zero_add]
  unfold TGK.rowSp
  rw [List.map_flatMap]
  refine flat_cg fun c hc => ?_
  have hc := List.mem_range.mp hc
  have e2 : ((rows.getD i []).map cl).getD c [] = cl ((rows.getD i []).getD c nilS) := by
    rw [List.getD_eq_getElem?_getD, List.getElem?_map, List.getD_eq_getElem?_getD (l := rows.getD i []), List.getElem?_eq_getElem hc]
    rfl
  rw [e2, Nat.zero_add, List.map_map, len_cl]
  rfl
/-- ... in a text: the i-th is where its first i signs end -/
theorem page_get {z : Str} {i : Nat} (h : i ≤ (cl z).length) : (TGK.pageSp (rowsT z))[i]? = some (finP (0, 0, 0) ((cl z).take i)) := by
  rw [page_pS, rowsT_cl, ← pos_go (cl z) 0 [] []]
  exact posP_get (cl z) (0, 0, 0) i h
theorem page_len (z : Str) : (TGK.pageSp (rowsT z)).length = z.length + 1 := by
  rw [page_pS, rowsT_cl, ← pos_go (cl z) 0 [] [], len_cl]
  exact posP_len (cl z) (0, 0, 0)
end TG


namespace TG
open PySem PySem.Spec PyProof.Rows L2 NdefX GenW Gx Lv
/-! ### the rows of a text, about one of its places -/
theorem go_pre : ∀ (A : List Nat) (R : List (List Nat)) (C : List Nat), ∃ (g : List (List (List Nat))) (a : List (List Nat)) (b : List Nat), (∀ t, goR R C (A ++ t) = g ++ goR a b t) ∧ finP (0, R.length, C.length) A = (g.length, a.length, b.length)
  | [], R, C => ⟨[], R, C, fun _ => rfl, rfl⟩
  | x :: A, R, C => by
    have e : ∀ t, goR R C (x :: A ++ t) = if x = 9 then goR (R ++ [C]) [] (A ++ t) else if x = 10 then (R ++ [C]) :: goR [] [] (A ++ t) else goR R (C ++ [x]) (A ++ t) := fun t => rfl
    have f : finP (0, R.length, C.length) (x :: A) = finP (nxP (0, R.length, C.length) x) A := rfl
    unfold nxP at f
    by_cases h9 : x = 9
    · obtain ⟨g, a, b, e1, e2⟩ := go_pre A (R ++ [C]) []
      refine ⟨g, a, b, fun t => by rw [e, if_pos h9]; exact e1 t, ?_⟩
      rw [f, if_pos h9, ← e2, List.length_append]
      rfl
    · by_cases h10 : x = 10
      · obtain ⟨g, a, b, e1, e2⟩ := go_pre A [] []
        refine ⟨(R ++ [C]) :: g, a, b, fun t => by rw [e, if_neg h9, if_pos h10, e1 t]; rfl, ?_⟩
        rw [f, if_neg h9, if_pos h10]
        have e2 : finP (0, 0, 0) A = (g.length, a.length, b.length) := e2
        have := fin_row A 0 0 0
        rw [e2] at this
        exact this
      · obtain ⟨g, a, b, e1, e2⟩ := go_pre A R (C ++ [x])
        refine ⟨g, a, b, fun t => by rw [e, if_neg h9, if_neg h10]; exact e1 t, ?_⟩
        rw [f, if_neg h9, if_neg h10, ← e2, List.length_append]
        rfl
theorem go_head : ∀ (B : List Nat), ∃ (b' : List Nat) (cs : List (List Nat)) (rs : List (List (List Nat))), ∀ (a : List (List Nat)) (b : List Nat), goR a b (B ++ [10]) = (a ++ (b ++ b') :: cs) :: rs
  | [] => ⟨[], [], [], fun a b => by
    show (a ++ [b]) :: [] = _
    rw [List.append_nil]⟩
  | x :: B => by
    have e : ∀ a b, goR a b (x :: B ++ [10]) = if x = 9 then goR (a ++ [b]) [] (B ++ [10]) else if x = 10 then (a ++ [b]) :: goR [] [] (B ++ [10]) else goR a (b ++ [x]) (B ++ [10]) := fun a b => rfl
    obtain ⟨b', cs, rs, h⟩ := go_head B
    by_cases h9 : x = 9
    · refine ⟨[], b' :: cs, rs, fun a b => ?_⟩
      rw [e, if_pos h9, h, List.append_nil, List.append_assoc]
      rfl
    · by_cases h10 : x = 10
      · refine ⟨[], [], goR [] [] (B ++ [10]), fun a b => ?_⟩
        rw [e, if_neg h9, if_pos h10, List.append_nil]
      · refine ⟨x :: b', cs, rs, fun a b => ?_⟩
        rw [e, if_neg h9, if_neg h10, h, List.append_assoc]
        rfl
/-- a text at its i-th place: the rows, where it is, and the rows with a sign laid in there -/
theorem ins_shape {z : Str} {i : Nat} : ∃ (g : List (List (List Nat))) (a : List (List Nat)) (b b' : List Nat) (cs : List (List Nat)) (rs : List (List (List Nat))),
    (rowsT z).map (List.map cl) = g ++ (a ++ (b ++ b') :: cs) :: rs ∧ finP (0, 0, 0) ((cl z).take i) = (g.length, a.length, b.length) ∧
    ∀ (y : Str) (x : Nat), cl y = (cl z).take i ++ x :: (cl z).drop i → (rowsT y).map (List.map cl) = if x = 9 then g ++ (a ++ b :: b' :: cs) :: rs else if x = 10 then g ++ (a ++ [b]) :: (b' :: cs) :: rs else g ++ (a ++ (b ++ x :: b') :: cs) :: rs := by
  obtain ⟨g, a, b, e1, e2⟩ := go_pre ((cl z).take i) [] []
  obtain ⟨b', cs, rs, h⟩ := go_head ((cl z).drop i)
  refine ⟨g, a, b, b', cs, rs, ?_, e2, fun y x hy => ?_⟩
  · rw [rowsT_cl]
    have := e1 ((cl z).drop i ++ [10])
    rw [← List.append_assoc, List.take_append_drop, h] at this
    exact this
  · rw [rowsT_cl, hy, List.append_assoc, e1]
    show g ++ (if x = 9 then goR (a ++ [b]) [] ((cl z).drop i ++ [10]) else if x = 10 then (a ++ [b]) :: goR [] [] ((cl z).drop i ++ [10]) else goR a (b ++ [x]) ((cl z).drop i ++ [10])) = _
    split
    · rw [h, List.append_assoc]
      rfl
    · split
      · rw [h]
        rfl
      · rw [h, List.append_assoc]
        rfl
end TG


namespace TG
open PySem PySem.Spec PyProof.Rows L2 NdefX GenW Gx Lv
/-! ### what the cursor's side lays, told of codes -/
section
variable {row : List Str} {a cs : List (List Nat)} {b b' : List Nat}
theorem cell_cl (h : row.map cl = a ++ (b ++ b') :: cs) : cl (row.getD a.length nilS) = b ++ b' := by
  have e := congrArg (fun l => l[a.length]?) h
  simp only [List.getElem?_map] at e
  rw [List.getElem?_append_right (Nat.le_refl _), Nat.sub_self, List.getElem?_cons_zero] at e
  cases c : row[a.length]? with
  | none => rw [c] at e; cases e
  | some z =>
    rw [c] at e
    rw [List.getD_eq_getElem?_getD, c]
    exact Option.some.inj e
theorem take_cl (h : row.map cl = a ++ (b ++ b') :: cs) : (row.take a.length).map cl = a := by rw [List.map_take, h, List.take_left]
theorem drop_cl (h : row.map cl = a ++ (b ++ b') :: cs) : (row.drop (a.length + 1)).map cl = cs := by
  rw [List.map_drop, h, List.drop_append, List.drop_eq_nil_of_le (by omega), List.nil_append]
  have e : a.length + 1 - a.length = 1 := by omega
  rw [e]
  rfl
end
theorem splice_cl {rows new : List (List Str)} {g : List (List (List Nat))} {r0 : List (List Nat)} {rs : List (List (List Nat))} (h : rows.map (List.map cl) = g ++ r0 :: rs) : (TGK.splice rows g.length 1 new).map (List.map cl) = g ++ new.map (List.map cl) ++ rs := by
  unfold TGK.splice
  rw [List.map_append, List.map_append, List.map_take, List.map_drop, h, List.take_left, List.drop_append, List.drop_eq_nil_of_le (by omega), List.nil_append]
  have e : g.length + 1 - g.length = 1 := by omega
  rw [e]
  rfl
end TG


namespace TG
open PySem PySem.Spec PyProof.Rows L2 NdefX GenW Gx Lv
theorem str_of {a b : Str} (h : cl a = cl b) : a = b := by
  obtain ⟨⟨a⟩⟩ := a
  obtain ⟨⟨b⟩⟩ := b
  have : a = b := h
  rw [this]
theorem map_cl_inj : ∀ {a b : List (List Str)}, a.map (List.map cl) = b.map (List.map cl) → a = b := by
  have h1 : ∀ {a b : List Str}, a.map cl = b.map cl → a = b := by
    intro a
    induction a with
    | nil => intro b h; cases b with
      | nil => rfl
      | cons y b => cases h
    | cons x a ih => intro b h; cases b with
      | nil => cases h
      | cons y b =>
        rw [List.map_cons, List.map_cons] at h
        injection h with h1 h2
        rw [str_of h1, ih h2]
  intro a
  induction a with
  | nil => intro b h; cases b with
    | nil => rfl
    | cons y b => cases h
  | cons x a ih => intro b h; cases b with
    | nil => cases h
    | cons y b =>
      rw [List.map_cons, List.map_cons] at h
      injection h with e1 e2
      rw [h1 e1, ih e2]
section
variable {row : List Str} {a cs : List (List Nat)} {b b' : List Nat}
theorem halvA_cl (h : row.map cl = a ++ (b ++ b') :: cs) : (TGK.halvA row a.length b.length).map cl = a ++ [b] := by
  unfold TGK.halvA
  rw [List.map_append, take_cl h]
  show a ++ [cl (TGK.zT (row.getD a.length nilS) b.length)] = _
  rw [TGK.cl_zT, cell_cl h, List.take_left]
theorem halvB_cl (h : row.map cl = a ++ (b ++ b') :: cs) : (TGK.halvB row a.length b.length).map cl = b' :: cs := by
  unfold TGK.halvB
  rw [List.map_cons, drop_cl h, TGK.cl_zD, cell_cl h, List.drop_left]
theorem sign_cl {s : Str} {x : Nat} (hs : cl s = [x]) (h : row.map cl = a ++ (b ++ b') :: cs) (n : s ≠ TGK.tabS) : (TGK.joinR (TGK.joinR (TGK.halvA row a.length b.length) [s]) (TGK.halvB row a.length b.length)).map cl = a ++ (b ++ x :: b') :: cs := by
  have e := TGK.cells_sign (r := row) (c := a.length) (k := b.length) n
  unfold TGK.cellsR at e
  dsimp only at e
  rw [if_neg n] at e
  rw [Option.some.inj e, List.map_append, List.map_append, take_cl h, drop_cl h]
  show a ++ [cl (TGK.zT (row.getD a.length nilS) b.length ++ s ++ TGK.zD (row.getD a.length nilS) b.length)] ++ cs = _
  rw [cl_app, cl_app, hs, TGK.cl_zT, TGK.cl_zD, cell_cl h, List.take_left, List.drop_left, List.append_assoc, List.append_assoc]
  rfl
end
theorem row_cl {rows : List (List Str)} {g : List (List (List Nat))} {r0 : List (List Nat)} {rs : List (List (List Nat))} (h : rows.map (List.map cl) = g ++ r0 :: rs) : (rows.getD g.length []).map cl = r0 := by
  have e := congrArg (fun l => l[g.length]?) h
  simp only [List.getElem?_map] at e
  rw [List.getElem?_append_right (Nat.le_refl _), Nat.sub_self, List.getElem?_cons_zero] at e
  cases c : rows[g.length]? with
  | none => rw [c] at e; cases e
  | some z =>
    rw [c] at e
    rw [List.getD_eq_getElem?_getD, c]
    exact Option.some.inj e
/-- a sign pressed at a text's i-th place: what the cursor's side lays are the rows of the text with it -/
theorem press_cut {z y s : Str} {i x : Nat} (hs : cl s = [x]) (hy : cl y = (cl z).take i ++ x :: (cl z).drop i) : ∃ n m new, TGK.cutD (rowsT z) (TGK.pressD (finP (0, 0, 0) ((cl z).take i)) s) = some (n, m, new) ∧ rowsT y = TGK.splice (rowsT z) n m new ∧ n + m ≤ (rowsT z).length := by
  obtain ⟨g, a, b, b', cs, rs, h1, h2, h3⟩ := ins_shape (z := z) (i := i)
  have h3 := h3 y x hy
  have hn : g.length + 1 ≤ (rowsT z).length := by
    have e := congrArg List.length h1
    rw [List.length_map, List.length_append, List.length_cons] at e
    omega
  have hr := row_cl h1
  rw [h2]
  have e9 : cl TGK.tabS = [9] := by decide +kernel
  have e10 : cl TGK.lineS = [10] := by decide +kernel
  unfold TGK.pressD
  by_cases cL : s = TGK.lineS
  · have hx : x = 10 := by rw [cL, e10] at hs; injection hs with hs; exact hs.symm
    rw [if_pos cL]
    refine ⟨_, _, _, rfl, map_cl_inj ?_, hn⟩
    rw [h3, if_neg (by omega), if_pos hx, splice_cl h1]
    show _ = g ++ [(TGK.halvA _ _ _).map cl, (TGK.halvB _ _ _).map cl] ++ rs
    rw [halvA_cl hr, halvB_cl hr, List.append_assoc]
    rfl
  · rw [if_neg cL]
    have x10 : x ≠ 10 := fun e => cL (str_of (by rw [hs, e10, e]))
    refine ⟨_, _, _, rfl, map_cl_inj ?_, hn⟩
    rw [h3, splice_cl h1]
    by_cases cT : s = TGK.tabS
    · have hx : x = 9 := by rw [cT, e9] at hs; injection hs with hs; exact hs.symm
      rw [if_pos hx, if_pos cT]
      show _ = g ++ [(TGK.halvA _ _ _ ++ TGK.halvB _ _ _).map cl] ++ rs
      rw [List.map_append, halvA_cl hr, halvB_cl hr, List.append_assoc, List.append_assoc]
      rfl
    · have x9 : x ≠ 9 := fun e => cT (str_of (by rw [hs, e9, e]))
      rw [if_neg x9, if_neg x10, if_neg cT]
      show _ = g ++ [(TGK.joinR _ _).map cl] ++ rs
      rw [sign_cl hs hr cT, List.append_assoc]
      rfl
end TG


namespace TG
open PySem PySem.Spec PyProof.Rows L2 NdefX GenW Gx Lv
theorem fitK_ok {r : List Str} (h : RowOk r) : TGK.fitR r = true := by
  unfold TGK.fitR
  rw [decide_eq_true ⟨h.pos, h.len⟩, Bool.true_and, List.all_eq_true]
  exact fun z hz => decide_eq_true (h.cells z hz).len
/-- a deed that lays the rows of another text: refused where those are no page, and there alone -/
theorem cut_done {z y : Str} {d : TGK.Deed} {n m : Nat} {new : List (List Str)} (hO : PgOk (rowsT z)) (ty : TxtSg y) (c : TGK.cutD (rowsT z) d = some (n, m, new)) (e : rowsT y = TGK.splice (rowsT z) n m new) (hn : n + m ≤ (rowsT z).length) : (PgOk (rowsT y) → TGK.doneR (rowsT z) d = some (rowsT y)) ∧ (¬ PgOk (rowsT y) → TGK.doneR (rowsT z) d = none) := by
  have sl := TGK.splice_len (new := new) hn
  rw [← e] at sl
  have ed : TGK.doneR (rowsT z) d = if TGK.fitsR (((rowsT z).length : Nat) - (m : Nat) + (new.length : Nat)) new = true then some (rowsT y) else none := by
    unfold TGK.doneR
    rw [c, e]
    rfl
  have key : TGK.fitsR (((rowsT z).length : Nat) - (m : Nat) + (new.length : Nat)) new = true ↔ PgOk (rowsT y) := by
    unfold TGK.fitsR
    rw [Bool.and_eq_true, decide_eq_true_iff, List.all_eq_true]
    constructor
    · rintro ⟨⟨f1, f2⟩, f3⟩
      refine good_pg ty ⟨by omega, fun r hr => ?_⟩
      have fin : ∀ r, TGK.fitR r = true → fitR r = true := fun r h => by
        unfold TGK.fitR at h
        rw [Bool.and_eq_true, decide_eq_true_iff] at h
        unfold fitR
        rw [h.2, Bool.and_true]
        exact decide_eq_true h.1.2
      rw [e] at hr
      unfold TGK.splice at hr
      rcases List.mem_append.mp hr with h | h
      · rcases List.mem_append.mp h with h | h
        · exact fin r (fitK_ok (hO.rows r (List.mem_of_mem_take h)))
        · exact fin r (f3 r h)
      · exact fin r (fitK_ok (hO.rows r (List.mem_of_mem_drop h)))
    · intro g
      refine ⟨⟨by have := g.pos; omega, by have := g.len; omega⟩, fun r hr => fitK_ok (g.rows r ?_)⟩
      rw [e]
      exact List.mem_append_left _ (List.mem_append_right _ hr)
  refine ⟨fun g => by rw [ed, if_pos (key.mpr g)], fun g => by rw [ed, if_neg fun z => g (key.mp z)]⟩
/-- a sign pressed: refused where the text with it is no page, and there alone -/
theorem press_done {z y s : Str} {i x : Nat} (hO : PgOk (rowsT z)) (ty : TxtSg y) (hs : cl s = [x]) (hy : cl y = (cl z).take i ++ x :: (cl z).drop i) : (PgOk (rowsT y) → TGK.doneR (rowsT z) (TGK.pressD (finP (0, 0, 0) ((cl z).take i)) s) = some (rowsT y)) ∧ (¬ PgOk (rowsT y) → TGK.doneR (rowsT z) (TGK.pressD (finP (0, 0, 0) ((cl z).take i)) s) = none) := by
  obtain ⟨n, m, new, c, e, hn⟩ := press_cut hs hy
  exact cut_done hO ty c e hn
end TG


namespace TG
open PySem PySem.Spec PyProof.Rows L2 NdefX GenW Gx Lv
theorem next_fin {p : Nat × Nat × Nat} {s : Str} {x : Nat} (hs : cl s = [x]) : TGK.nextP p s = nxP p x := by
  have e9 : cl TGK.tabS = [9] := by decide +kernel
  have e10 : cl TGK.lineS = [10] := by decide +kernel
  unfold TGK.nextP nxP
  by_cases cL : s = TGK.lineS
  · have hx : x = 10 := by rw [cL, e10] at hs; injection hs with hs; exact hs.symm
    rw [if_pos cL, if_neg (by omega), if_pos hx]
  · have x10 : x ≠ 10 := fun e => cL (str_of (by rw [hs, e10, e]))
    rw [if_neg cL]
    by_cases cT : s = TGK.tabS
    · have hx : x = 9 := by rw [cT, e9] at hs; injection hs with hs; exact hs.symm
      rw [if_pos cT, if_pos hx]
    · have x9 : x ≠ 9 := fun e => cT (str_of (by rw [hs, e9, e]))
      rw [if_neg cT, if_neg x9, if_neg x10]
/-- behind a sign laid in at the i-th place -/
theorem fin_next {z y s : Str} {i x : Nat} (hi : i ≤ (cl z).length) (hs : cl s = [x]) (hy : cl y = (cl z).take i ++ x :: (cl z).drop i) : finP (0, 0, 0) ((cl y).take (i + 1)) = TGK.nextP (finP (0, 0, 0) ((cl z).take i)) s := by
  have l : ((cl z).take i).length = i := by rw [List.length_take]; omega
  have e : (cl y).take (i + 1) = (cl z).take i ++ [x] := by
    rw [hy, List.take_append, List.take_of_length_le (by omega), l]
    have e1 : i + 1 - i = 1 := by omega
    rw [e1]
    rfl
  rw [e, next_fin hs]
  unfold finP
  rw [List.foldl_append]
  rfl
end TG


namespace TG
open PySem PySem.Spec PyProof.Rows L2 NdefX GenW Gx Lv
/-! ### left and right: along the places -/
theorem beside_fin {z : Str} {i : Nat} (hi : i ≤ (cl z).length) (k : Int) : TGK.besideR (rowsT z) (finP (0, 0, 0) ((cl z).take i)) k = if 0 ≤ (i : Int) + k ∧ (i : Int) + k ≤ ((cl z).length : Nat) then some (finP (0, 0, 0) ((cl z).take ((i : Int) + k).toNat)) else none := by
  unfold TGK.besideR
  rw [TGK.idx_of (TGK.pageSp_nd _) (page_get hi), page_len, len_cl]
  dsimp only
  by_cases c : 0 ≤ (i : Int) + k ∧ (i : Int) + k ≤ ((cl z).length : Nat)
  · rw [if_pos c, if_pos ⟨c.1, by omega⟩]
    exact page_get (by omega)
  · rw [if_neg c, if_neg fun q => c ⟨q.1, by omega⟩]
end TG


namespace TG
open PySem PySem.Spec PyProof.Rows L2 NdefX GenW Gx Lv
/-! ### rubbed: the sign ahead taken out -/
theorem joinR_cl {A B : List Str} {a cs : List (List Nat)} {b b' : List Nat} (hA : A.map cl = a ++ [b]) (hB : B.map cl = b' :: cs) : (TGK.joinR A B).map cl = a ++ (b ++ b') :: cs := by
  unfold TGK.joinR
  have e1 : A.dropLast.map cl = a := by rw [List.map_dropLast, hA, List.dropLast_concat]
  have e2 : cl (A.getLast?.getD nilS) = b := by
    have g := congrArg List.getLast? hA
    rw [List.getLast?_map, List.getLast?_concat] at g
    cases c : A.getLast? with
    | none => rw [c] at g; cases g
    | some z => rw [c] at g; exact Option.some.inj g
  match B, hB with
  | z :: B, hB =>
    have h1 : cl z = b' := by injection hB
    have h2 : B.map cl = cs := by injection hB
    show (A.dropLast ++ (A.getLast?.getD nilS ++ z) :: B).map cl = _
    rw [List.map_append, List.map_cons, e1, h2, cl_app, e2, h1]
theorem nil_cl {z : Str} : cl z = [] ↔ z = nilS := ⟨fun h => str_of (by rw [h]), fun h => by rw [h]⟩
theorem splice_cl2 {rows new : List (List Str)} {g : List (List (List Nat))} {r0 r1 : List (List Nat)} {rs : List (List (List Nat))} (h : rows.map (List.map cl) = g ++ r0 :: r1 :: rs) : (TGK.splice rows g.length 2 new).map (List.map cl) = g ++ new.map (List.map cl) ++ rs := by
  unfold TGK.splice
  rw [List.map_append, List.map_append, List.map_take, List.map_drop, h, List.take_left, List.drop_append, List.drop_eq_nil_of_le (by omega), List.nil_append]
  have e : g.length + 2 - g.length = 2 := by omega
  rw [e]
  rfl
/-- what is rubbed out ahead of a place: the cursor's side lays the rows of the text without it -/
theorem rub_cut {z y s : Str} {i x : Nat} (hi : i ≤ (cl y).length) (hs : cl s = [x]) (hz : cl z = (cl y).take i ++ x :: (cl y).drop i) : ∃ n m new, TGK.cutD (rowsT z) (TGK.rubD (finP (0, 0, 0) ((cl z).take (i + 1))) (finP (0, 0, 0) ((cl z).take i))) = some (n, m, new) ∧ rowsT y = TGK.splice (rowsT z) n m new ∧ n + m ≤ (rowsT z).length := by
  obtain ⟨g, a, b, b', cs, rs, h1, h2, h3⟩ := ins_shape (z := y) (i := i)
  have h3 := h3 z x hz
  have l : ((cl y).take i).length = i := by rw [List.length_take]; omega
  have ez : (cl z).take i = (cl y).take i := by rw [hz, List.take_append, List.take_of_length_le (by omega), l, Nat.sub_self, List.take_zero, List.append_nil]
  rw [fin_next hi hs hz, ez, h2, next_fin hs]
  unfold nxP TGK.rubD
  by_cases h9 : x = 9
  · rw [if_pos h9] at h3
    rw [if_pos h9, if_neg (by show ¬ g.length < g.length; omega)]
    have h3' : (rowsT z).map (List.map cl) = g ++ (a ++ (b ++ []) :: b' :: cs) :: rs := by rw [h3, List.append_nil]
    have hr := row_cl h3'
    have hB := halvB_cl hr
    have hA := halvA_cl hr
    have hn : g.length + 1 ≤ (rowsT z).length := by
      have e := congrArg List.length h3
      rw [List.length_map, List.length_append, List.length_cons] at e
      omega
    have hl : TGK.lessR (TGK.halvB ((rowsT z).getD g.length []) a.length b.length) = some (TGK.halvB ((rowsT z).getD g.length []) a.length b.length).tail := by
      generalize TGK.halvB ((rowsT z).getD g.length []) a.length b.length = w at hB
      match w, hB with
      | q :: r :: w, hB =>
        have hq : cl q = [] := by injection hB
        have hq := nil_cl.mp hq
        unfold TGK.lessR
        rw [if_neg (by show ¬ q ≠ nilS; rw [hq]; simp), if_neg (by simp)]
      | [q], hB => simp at hB
    refine ⟨g.length, 1, [TGK.joinR (TGK.halvA ((rowsT z).getD g.length []) a.length b.length) (TGK.halvB ((rowsT z).getD g.length []) a.length b.length).tail], ?_, map_cl_inj ?_, hn⟩
    · show (TGK.lessR (TGK.halvB ((rowsT z).getD g.length []) a.length b.length)).map _ = _
      rw [hl]
      rfl
    · rw [h1, splice_cl h3]
      show _ = g ++ [(TGK.joinR _ _).map cl] ++ rs
      rw [joinR_cl hA (by rw [List.map_tail, hB]; rfl), List.append_assoc]
      rfl
  · rw [if_neg h9] at h3
    rw [if_neg h9]
    by_cases h10 : x = 10
    · rw [if_pos h10] at h3
      rw [if_pos h10, if_pos (by show g.length < g.length + 1; omega)]
      have hA := row_cl h3
      have h3' : (rowsT z).map (List.map cl) = (g ++ [a ++ [b]]) ++ (b' :: cs) :: rs := by rw [h3, List.append_assoc]; rfl
      have hB := row_cl h3'
      rw [List.length_append, List.length_singleton] at hB
      have hn : g.length + 2 ≤ (rowsT z).length := by
        have e := congrArg List.length h3
        rw [List.length_map, List.length_append, List.length_cons, List.length_cons] at e
        omega
      refine ⟨g.length, 2, [TGK.joinR ((rowsT z).getD g.length []) ((rowsT z).getD (g.length + 1) [])], ?_, map_cl_inj ?_, hn⟩
      · show (if g.length + 1 < (rowsT z).length then _ else _) = _
        rw [if_pos (by omega)]
      · rw [h1, splice_cl2 h3]
        show _ = g ++ [(TGK.joinR _ _).map cl] ++ rs
        rw [joinR_cl hA hB, List.append_assoc]
        rfl
    · rw [if_neg h10] at h3
      rw [if_neg h10, if_neg (by show ¬ g.length < g.length; omega)]
      have hr := row_cl h3
      have hB := halvB_cl hr
      have hA := halvA_cl hr
      have hn : g.length + 1 ≤ (rowsT z).length := by
        have e := congrArg List.length h3
        rw [List.length_map, List.length_append, List.length_cons] at e
        omega
      obtain ⟨w, hl, hw⟩ : ∃ w, TGK.lessR (TGK.halvB ((rowsT z).getD g.length []) a.length b.length) = some w ∧ w.map cl = b' :: cs := by
        generalize TGK.halvB ((rowsT z).getD g.length []) a.length b.length = w at hB
        match w, hB with
        | q :: w, hB =>
          have hq : cl q = x :: b' := by injection hB
          have h2 : w.map cl = cs := by injection hB
          have nq : q ≠ nilS := fun e => by rw [nil_cl.mpr e] at hq; cases hq
          refine ⟨TGK.zD q 1 :: w, ?_, ?_⟩
          · unfold TGK.lessR
            rw [if_pos (by show q ≠ nilS; exact nq)]
            rfl
          · rw [List.map_cons, TGK.cl_zD, hq, h2]
            rfl
      refine ⟨g.length, 1, [TGK.joinR (TGK.halvA ((rowsT z).getD g.length []) a.length b.length) w], ?_, map_cl_inj ?_, hn⟩
      · show (TGK.lessR (TGK.halvB ((rowsT z).getD g.length []) a.length b.length)).map _ = _
        rw [hl]
        rfl
      · rw [h1, splice_cl h3]
        show _ = g ++ [(TGK.joinR _ _).map cl] ++ rs
        rw [joinR_cl hA hw, List.append_assoc]
        rfl
/-- a sign rubbed out: refused where the text without it is no page, and there alone -/
theorem rub_done {z y s : Str} {i x : Nat} (hO : PgOk (rowsT z)) (ty : TxtSg y) (hi : i ≤ (cl y).length) (hs : cl s = [x]) (hz : cl z = (cl y).take i ++ x :: (cl y).drop i) : (PgOk (rowsT y) → TGK.doneR (rowsT z) (TGK.rubD (finP (0, 0, 0) ((cl z).take (i + 1))) (finP (0, 0, 0) ((cl z).take i))) = some (rowsT y)) ∧ (¬ PgOk (rowsT y) → TGK.doneR (rowsT z) (TGK.rubD (finP (0, 0, 0) ((cl z).take (i + 1))) (finP (0, 0, 0) ((cl z).take i))) = none) := by
  obtain ⟨n, m, new, c, e, hn⟩ := rub_cut hi hs hz
  exact cut_done hO ty c e hn
end TG


namespace TG
open PySem PySem.Spec PyProof.Rows L2 NdefX GenW Gx Lv
/-! ### which marks are there (as of two hands) -/
theorem filt_all {p : Nat → Bool} : ∀ {l : List Nat}, (∀ x ∈ l, p x = true) → l.filter p = l
  | [], _ => rfl
  | a :: l, h => by rw [List.filter_cons, if_pos (h a (by simp)), filt_all fun x hx => h x (by simp [hx])]
theorem sgS_len (z : Str) : (sgS z).length = z.length := by unfold sgS; rw [List.length_map, Array.length_toList]; rfl
theorem cl_textR (signs : List Str) (marks : List Nat) : cl (textR signs marks) = (marks.map fun m => cl (signs.getD m "")).flatten := by
  unfold textR
  rw [cl_joinL]
  have e0 : cl ("" : Str) = [] := by decide +kernel
  rw [e0, List.map_map]
  have : ∀ l : List (List Nat), TL.joinL [] l = l.flatten := by
    intro l
    induction l with
    | nil => rfl
    | cons y ys ih =>
      cases ys with
      | nil => simp [TL.joinL]
      | cons x xs =>
        show y ++ ([] ++ TL.joinL [] (x :: xs)) = _
        rw [List.nil_append, ih]
        rfl
  rw [this]
  rfl
theorem drop_idx {s : Nat} : ∀ {l : List Nat}, s ∈ l → ∃ r, l.drop (l.idxOf s) = s :: r
  | a :: l, h => by
    by_cases c : a = s
    · subst c
      exact ⟨l, by simp [List.idxOf_cons]⟩
    · have hm : s ∈ l := by
        rcases List.mem_cons.mp h with e | e
        · exact absurd e.symm c
        · exact e
      obtain ⟨r, hr⟩ := drop_idx hm
      refine ⟨r, ?_⟩
      rw [List.idxOf_cons]
      have : (a == s) = false := by simp [c]
      rw [this]
      exact hr
theorem firstR_self {order : List Nat} {there : List Bool} {s : Nat} (h : s ∈ order) (t : there.getD s false = true) : firstR order there s = s ∧ ∃ m ∈ order.drop (order.idxOf s), there.getD m false = true := by
  obtain ⟨r, hr⟩ := drop_idx h
  unfold firstR
  rw [hr, List.find?_cons, t]
  exact ⟨rfl, s, by simp, t⟩
theorem cl_oneG (c : Nat) : cl (⟨#[c]⟩ : Str) = [c] := rfl
theorem MarkOk.sg {x : Str} (h : MarkOk x) : ∀ c ∈ cl x, SgOk c ∨ c = 9 ∨ c = 10 := by
  intro c hc
  rcases h with h | h | ⟨d, h, hd⟩
  · rw [h, cl_tabS, List.mem_singleton] at hc
    exact .inr (.inl hc)
  · rw [h, cl_lineS, List.mem_singleton] at hc
    exact .inr (.inr hc)
  · rw [h, cl_oneG, List.mem_singleton] at hc
    rw [hc]
    exact .inl hd
/-! ### which marks are there -/
def killD (d : Deed) : Bool := decide (d.2.2.2 = decide (d.2.1 = ""))
def pr (D : List Deed) (m : Nat) : Bool := D.all fun d => !(killD d && decide (d.2.2.1 = m))
theorem set_get {th : List Bool} {i m : Nat} : (th.set i false).getD m false = (th.getD m false && !decide (i = m)) := by
  rw [List.getD_eq_getElem?_getD, List.getD_eq_getElem?_getD]
  by_cases h : i = m
  · subst h
    rw [decide_eq_true rfl, Bool.not_true, Bool.and_false]
    by_cases c : i < th.length
    · rw [List.getElem?_set_self c]
      rfl
    · rw [List.getElem?_eq_none (by rw [List.length_set]; omega)]
      rfl
  · rw [List.getElem?_set_ne h, decide_eq_false h, Bool.not_false, Bool.and_true]
theorem there_fold : ∀ (D : List Deed) (th : List Bool) (m : Nat), (D.foldl markR th).getD m false = (th.getD m false && pr D m)
  | [], th, m => by simp [pr]
  | d :: D, th, m => by
    rw [List.foldl_cons, there_fold D]
    unfold markR pr
    rw [List.all_cons]
    unfold killD
    by_cases c : d.2.2.2 = decide (d.2.1 = "")
    · rw [if_pos c, decide_eq_true c, set_get, Bool.true_and, Bool.and_assoc]
    · rw [if_neg c, decide_eq_false c, Bool.false_and, Bool.not_false, Bool.true_and]
theorem there_pr {many m : Nat} {D : List Deed} (h : m < many) : (thereR many D).getD m false = pr D m := by
  unfold thereR
  rw [there_fold, List.getD_eq_getElem?_getD, List.getElem?_replicate, if_pos h]
  simp
theorem those_pr {many : Nat} {D : List Deed} {order : List Nat} (h : ∀ m ∈ order, m < many) : thoseR order (thereR many D) = order.filter (pr D) := by
  unfold thoseR
  exact List.filter_congr fun m hm => there_pr (h m hm)
theorem pr_out {D : List Deed} {m : Nat} (h : ∀ d ∈ D, d.2.2.1 ≠ m) : pr D m = true := by
  unfold pr
  rw [List.all_eq_true]
  intro d hd
  rw [decide_eq_false (h d hd), Bool.and_false, Bool.not_false]
/-! ### sums of lists -/
theorem take_idx {l : List Nat} {s : Nat} (h : s ∈ l) : ∃ a r, l = a ++ s :: r ∧ s ∉ a ∧ a.length = l.idxOf s := by
  induction l with
  | nil => cases h
  | cons x l ih =>
    by_cases c : x = s
    · subst c
      exact ⟨[], l, rfl, List.not_mem_nil, by simp [List.idxOf_cons]⟩
    · have hm : s ∈ l := by
        rcases List.mem_cons.mp h with e | e
        · exact absurd e.symm c
        · exact e
      obtain ⟨a, r, e1, e2, e3⟩ := ih hm
      refine ⟨x :: a, r, by rw [e1]; rfl, fun z => ?_, ?_⟩
      · rcases List.mem_cons.mp z with e | e
        · exact c e.symm
        · exact e2 e
      · rw [List.idxOf_cons]
        have : (x == s) = false := by simp [c]
        rw [this, List.length_cons, e3]
        rfl
/-- codes of marks -/
def clM (signs : List Str) (M : List Nat) : List Nat := (M.map fun m => cl (signs.getD m "")).flatten
theorem clM_app (signs : List Str) (a b : List Nat) : clM signs (a ++ b) = clM signs a ++ clM signs b := by
  unfold clM
  rw [List.map_append, List.flatten_append]
theorem clM_eq (signs : List Str) (M : List Nat) : cl (textR signs M) = clM signs M := cl_textR signs M
theorem clM_cong {s1 s2 : List Str} {M : List Nat} (h : ∀ m ∈ M, s1.getD m "" = s2.getD m "") : clM s1 M = clM s2 M := by
  unfold clM
  rw [List.map_congr_left fun m hm => by rw [h m hm]]
theorem MarkOk.one {x : Str} (h : MarkOk x) : ∃ c, cl x = [c] := by
  rcases h with h | h | ⟨d, h, hd⟩
  · exact ⟨_, by rw [h, cl_tabS]⟩
  · exact ⟨_, by rw [h, cl_lineS]⟩
  · exact ⟨d, by rw [h, cl_oneG]⟩
theorem MarkOk.ne {x : Str} (h : MarkOk x) : x ≠ "" := fun e => by
  have := h.len
  rw [e] at this
  have e0 : ("" : Str).length = 0 := by decide +kernel
  rw [e0] at this
  cases this
theorem clM_ones {signs : List Str} : ∀ {M : List Nat}, (∀ m ∈ M, MarkOk (signs.getD m "")) → (clM signs M).length = M.length
  | [], _ => rfl
  | m :: M, h => by
    have e : clM signs (m :: M) = cl (signs.getD m "") ++ clM signs M := rfl
    obtain ⟨c, hc⟩ := (h m (by simp)).one
    rw [e, hc, List.length_append, clM_ones fun x hx => h x (by simp [hx])]
    simp [Nat.add_comm]
theorem clM_take {signs : List Str} {M : List Nat} (h : ∀ m ∈ M, MarkOk (signs.getD m "")) (i : Nat) : clM signs (M.take i) = (clM signs M).take i := by
  have e := clM_app signs (M.take i) (M.drop i)
  rw [List.take_append_drop] at e
  have l := clM_ones (signs := signs) (M := M.take i) fun m hm => h m (List.mem_of_mem_take hm)
  by_cases c : i ≤ M.length
  · have lc : (clM signs (M.take i)).length = i := by rw [l, List.length_take]; omega
    conv => rhs; rw [e]
    exact (List.take_left' lc).symm
  · rw [List.take_of_length_le (by omega : M.length ≤ i), List.take_of_length_le (by rw [clM_ones h]; omega)]
theorem clM_drop {signs : List Str} {M : List Nat} (h : ∀ m ∈ M, MarkOk (signs.getD m "")) (i : Nat) : clM signs (M.drop i) = (clM signs M).drop i := by
  have e := clM_app signs (M.take i) (M.drop i)
  rw [List.take_append_drop] at e
  have l := clM_ones (signs := signs) (M := M.take i) fun m hm => h m (List.mem_of_mem_take hm)
  by_cases c : i ≤ M.length
  · have lc : (clM signs (M.take i)).length = i := by rw [l, List.length_take]; omega
    conv => rhs; rw [e]
    exact (List.drop_left' lc).symm
  · rw [List.drop_of_length_le (by omega : M.length ≤ i), List.drop_of_length_le (by rw [clM_ones h]; omega)]
    rfl
theorem pr_app (D : List Deed) (d : Deed) (m : Nat) : pr (D ++ [d]) m = (pr D m && !(killD d && decide (d.2.2.1 = m))) := by
  unfold pr
  rw [List.all_append]
  simp
end TG


namespace TG
open PySem PySem.Spec PyProof.Rows L2 NdefX GenW Gx Lv Dl
/-! ### the eleven classes, and what _law_told tells of them -/
structure Errs (K : PySem.W.Frag) (mg : Str → Option Value) : Prop where
  mg_ : ∀ j, j < 11 → mg (nmE j) = some (.ref (He.ga K (nmE j)))
  grow : mg "GrowError" = some (.ref (He.ga K "GrowError"))
  exc : ∀ j, j < 11 → ExcC K (He.ga K (nmE j))
  sub : ∀ j, j < 11 → PySem.W.exmOne K (.ref (He.ga K (nmE j))) (.ref (He.ga K "GrowError")) = some true
  val : ∀ j, j < 11 → PySem.W.kitOne K (.ref (He.ga K (nmE j))) (.type "ValueError") = some true
  kit : ∀ i j, i < 11 → j < 11 → PySem.W.kitOne K (.ref (He.ga K (nmE i))) (.ref (He.ga K (nmE j))) = some (decide (i = j))
  fld : ∀ j, j < 11 → flE j ≠ "" → PySem.W.findIn K (.ref (He.ga K (nmE j))) (flE j) = some none
  ve : mg "ValueError" = none
/-- the error of the j-th class, whose value, if it has one, is n -/
structure ErrAt (K : PySem.W.Frag) (H : Hp) (j : Nat) (n : Int) (cls : Value) (d : Option Addr) : Prop where
  lt : j < 11
  cls : cls = .ref (He.ga K (nmE j))
  yes : flE j ≠ "" → ∃ dd, d = some dd ∧ H dd = some (.xd [(flE j, .int n)])
  no : flE j = "" → n = 0 ∧ d = none
theorem ErrAt.xd {K : PySem.W.Frag} {H : Hp} {j : Nat} {n : Int} {cls : Value} {d : Option Addr} (e : ErrAt K H j n cls d) : XdAt H d := by
  by_cases h : flE j = ""
  · exact .inl (e.no h).2
  · obtain ⟨dd, h1, h2⟩ := e.yes h
    exact .inr ⟨dd, _, h1, h2⟩
theorem Ex.xd {cs : List (Addr × Addr)} {H H' : Hp} {a : Addr} {fs : List (Str × V)} (e : Ex cs H H') (h : H a = some (.xd fs)) : H' a = some (.xd fs) := e.ext _ _ h fun ps q => by cases q
theorem ErrAt.ex {cs : List (Addr × Addr)} {K : PySem.W.Frag} {H H' : Hp} {j : Nat} {n : Int} {cls : Value} {d : Option Addr} (e : ErrAt K H j n cls d) (x : Ex cs H H') : ErrAt K H' j n cls d :=
  ⟨e.lt, e.cls, fun h => let ⟨dd, h1, h2⟩ := e.yes h; ⟨dd, h1, Ex.xd x h2⟩, e.no⟩
def kindsR (j m : Nat) : List V := (List.range m).map fun i => V.bl (decide (j = i))
theorem word_in : ∀ j, j < 11 → inV (.str (nmE j)) [.str "BadPage", .str "BadText"] = decide (j = 0 ∨ j = 8) := by decide +kernel
theorem word_in2 : ∀ j, j < 11 → inV (.str (nmE j)) [.str "BadStep", .str "BadStroke"] = decide (j = 6 ∨ j = 7) := by decide +kernel
theorem word_eq : ∀ j, j < 11 → decide (nmE j = "BadLines") = decide (j = 5) := by decide +kernel
theorem word_fl : ∀ j, j < 11 → ¬ (j = 0 ∨ j = 8) → ¬ j = 5 → ¬ (j = 6 ∨ j = 7) → flE j = "" := by decide +kernel
theorem kinds_cnt : ∀ j, j < 11 → (kindsR j 11).countP (fun z => eqV z (.bl true)) = 1 := by decide +kernel
theorem kinds_flat : ∀ j, j < 11 → (kindsR j 11).all flatV = true := by decide +kernel
theorem kinds_at : ∀ j, j < 11 → (kindsR j 11)[j]? = some (.bl true) := by decide +kernel
theorem kinds_no : ∀ j, j < 11 → ∀ m, m < j → (kindsR j 11)[m]? = some (.bl false) := by decide +kernel
section
variable {P : Program} {w : World} {K : PySem.W.Frag} {mg : Str → Option Value} {base : Heap} {cs : List (Addr × Addr)}
/-- _law_told: what a work gives, or the word and the number of what it raised -/
def spTellsW (P : Program) (w : World) (K : PySem.W.Frag) (mg : Str → Option Value) (base : Heap) (cs : List (Addr × Addr)) (kl : Nat) : Sp := fun vs H Q _ => ∃ (f : Addr) (Hf : Hp → Prop) (sp : Sp),
  vs = [.ref f] ∧ Hf H ∧ LamW P w K mg base kl f Hf sp ∧
  ∀ (Z : VK) (E : XK), (∀ v H', Q v H' → Z v H') → (∀ (cls : Value) (d : Option Addr) (H1 : Hp) (j : Nat) (n : Int), ErrAt K H1 j n cls d → Tabs cs H1 → (∀ (T : Addr) (H2 : Hp), Ex cs H1 H2 → H1 T = none → H2 T = some (.tup [.str (nmE j), .int n]) → Q (.ref T) H2) → E cls d H1) → sp [] H Z E
abbrev nmTold : List Str := ["_law_work", "e", "_law_kinds", "_law_words", "_law_word"]
theorem sc_tells : FnScope nmTold ["_law_work"] (defScope s_told) := ⟨rfl, rfl, rfl, by decide +kernel, rfl, by decide +kernel, by decide +kernel⟩
theorem names_get (j : Nat) : ∀ {H : Hp} {Q : VK} {a : Addr}, j < 11 → H a = some (.lst (excNm.map V.str)) → Q (.str (nmE j)) H → ∃ (p : Addr) (items : List V) (i : Int) (v : V), V.ref a = .ref p ∧ V.int (j : Nat) = .int i ∧ SqL K H p items ∧ atI items i = some v ∧ Q v H := fun {H Q a} hj ha q =>
  ⟨a, _, _, _, rfl, rfl, SqL.of ha, atI_nat (v := .str (nmE j)) (by
    rw [List.getElem?_map]
    have : excNm[j]? = some (nmE j) := by
      have h2 : j < excNm.length := hj
      rw [List.getElem?_eq_getElem h2]
      simp [nmE, List.getD, List.getElem?_eq_getElem h2]
    rw [this]
    rfl), q⟩
theorem ok_tellsW {f : Addr} {fd : FuncData} {kl : Nat} (T : Txt mg) (Er : Errs K mg) (F : Fun K "_law_told" "_law_told" s_told f fd) : FnOk P w K mg base CX0 (kl + 1) f fd ["_law_work"] (spTellsW P w K mg base cs kl) := by
  refine F.ok sc_tells (fun vs H Q E h => ?_) (fun cdv A outer s H vs Q E hr h => ?_)
  · obtain ⟨f, Hf, sp, rfl, _⟩ := h
    rfl
  · obtain ⟨fl, Hf, sp, rfl, hf, L, k⟩ := h
    have nd := sc_tells.nd
    refine ⟨_, pss_one (ps_try_as (i := 1) rfl rfl nd rfl rfl ⟨rfl, by decide, .inl Er.grow⟩ takes0 (fun W pn xe tk _ => pss_one (ps_ret (pe_callW (P := P) (w := w) (K := K) (mg := mg) (base := base) (k := kl) (i := 0) ⟨rfl, rfl, rfl, rfl, rfl⟩ hr tk rfl (.inl rfl))))
      (fun a oe cls d pn hz hf => 
        pss_cons (ps_set (i := 2) nd rfl (.inl rfl) (pe_lst (pa_cons (pe_callB (call_isX hz hf) (by rfl) T.isin (by decide +kernel) (pa_cons (pv 1) (pa_cons (pe_glob (v := .ref (He.ga K (nmE 0))) rfl (Er.mg_ 0 (by decide)) rfl) pa_nil)))
            (pa_cons (pe_callB (call_isX hz hf) (by rfl) T.isin (by decide +kernel) (pa_cons (pv 1) (pa_cons (pe_glob (v := .ref (He.ga K (nmE 1))) rfl (Er.mg_ 1 (by decide)) rfl) pa_nil)))
            (pa_cons (pe_callB (call_isX hz hf) (by rfl) T.isin (by decide +kernel) (pa_cons (pv 1) (pa_cons (pe_glob (v := .ref (He.ga K (nmE 2))) rfl (Er.mg_ 2 (by decide)) rfl) pa_nil)))
            (pa_cons (pe_callB (call_isX hz hf) (by rfl) T.isin (by decide +kernel) (pa_cons (pv 1) (pa_cons (pe_glob (v := .ref (He.ga K (nmE 3))) rfl (Er.mg_ 3 (by decide)) rfl) pa_nil))) pa_nil))))))
        (pss_cons (ps_set (i := 2) nd rfl (.inl rfl) (pe_op op_cat (pv 2) (pe_lst (pa_cons (pe_callB (call_isX hz hf) (by rfl) T.isin (by decide +kernel) (pa_cons (pv 1) (pa_cons (pe_glob (v := .ref (He.ga K (nmE 4))) rfl (Er.mg_ 4 (by decide)) rfl) pa_nil)))
            (pa_cons (pe_callB (call_isX hz hf) (by rfl) T.isin (by decide +kernel) (pa_cons (pv 1) (pa_cons (pe_glob (v := .ref (He.ga K (nmE 5))) rfl (Er.mg_ 5 (by decide)) rfl) pa_nil)))
            (pa_cons (pe_callB (call_isX hz hf) (by rfl) T.isin (by decide +kernel) (pa_cons (pv 1) (pa_cons (pe_glob (v := .ref (He.ga K (nmE 6))) rfl (Er.mg_ 6 (by decide)) rfl) pa_nil))) pa_nil))))))
        (pss_cons (ps_set (i := 2) nd rfl (.inl rfl) (pe_op op_cat (pv 2) (pe_lst (pa_cons (pe_callB (call_isX hz hf) (by rfl) T.isin (by decide +kernel) (pa_cons (pv 1) (pa_cons (pe_glob (v := .ref (He.ga K (nmE 7))) rfl (Er.mg_ 7 (by decide)) rfl) pa_nil)))
            (pa_cons (pe_callB (call_isX hz hf) (by rfl) T.isin (by decide +kernel) (pa_cons (pv 1) (pa_cons (pe_glob (v := .ref (He.ga K (nmE 8))) rfl (Er.mg_ 8 (by decide)) rfl) pa_nil)))
            (pa_cons (pe_callB (call_isX hz hf) (by rfl) T.isin (by decide +kernel) (pa_cons (pv 1) (pa_cons (pe_glob (v := .ref (He.ga K (nmE 9))) rfl (Er.mg_ 9 (by decide)) rfl) pa_nil))) pa_nil))))))
        (pss_cons (ps_expr (pe_bmU PySem.F.plainAttrs_list PySem.F.slot_list_append PySem.F.type_list_append mt_append (pv 2) (pa_cons (pe_callB (call_isX hz hf) (by rfl) T.isin (by decide +kernel) (pa_cons (pv 1) (pa_cons (pe_glob (v := .ref (He.ga K (nmE 10))) rfl (Er.mg_ 10 (by decide)) rfl) pa_nil))) pa_nil)))
        (pss_cons (ps_if (PW.pt (pw_or (pt_cmpR op_ne (pe_bmU PySem.F.plainAttrs_list PySem.F.slot_list_count PySem.F.type_list_count mt_cntU (pv 2) (pa_cons pe_bl pa_nil)) pe_int (nomark _))
            (pw_or1 (pt_not (pt_val (pe_callB (call_isX hz hf) (by rfl) T.isin (by decide +kernel) (pa_cons (pv 1) (pa_cons (pe_bltn (v := .ty "ValueError") (by rfl) Er.ve (by decide +kernel) rfl) pa_nil)))))))) (pss_one (ps_ret (pe_tup (pa_cons pe_str (pa_cons pe_int pa_nil))))) pss_nil)
        (pss_cons (ps_set (i := 3) nd rfl (.inl rfl) (pe_lst (pa_cons pe_str (pa_cons pe_str (pa_cons pe_str (pa_cons pe_str (pa_cons pe_str (pa_cons pe_str (pa_cons pe_str (pa_cons pe_str (pa_cons pe_str pa_nil)))))))))))
        (pss_cons (ps_set (i := 4) nd rfl (.inl rfl) (pe_ix ix_listU (pe_op op_cat (pv 3) (pe_lst (pa_cons pe_str (pa_cons pe_str pa_nil)))) (pe_bmU PySem.F.plainAttrs_list PySem.F.slot_list_index PySem.F.type_list_index mt_indexU (pv 2) (pa_cons pe_bl pa_nil)) (fun _ _ => rfl)))
        (pss_cons (ps_if (pt_cmpR op_inU (pv 4) (pe_tup (pa_cons pe_str (pa_cons pe_str pa_nil))) (by with_unfolding_all rfl)) (pss_one (ps_ret (pe_tup (pa_cons (pv 4) (pa_cons (pe_xfX hz hf (pv 1)) pa_nil))))) pss_nil)
        (pss_cons (ps_if (pt_cmpR op_eq (pv 4) pe_str (nomark _)) (pss_one (ps_ret (pe_tup (pa_cons (pv 4) (pa_cons (pe_xfX hz hf (pv 1)) pa_nil))))) pss_nil)
        (pss_one (ps_ret (pe_tup (pa_cons (pv 4) (pa_cons (pe_ifExp (pt_cmpR op_inU (pv 4) (pe_tup (pa_cons pe_str (pa_cons pe_str pa_nil))) (by with_unfolding_all rfl)) (pe_xfX hz hf (pv 1)) pe_int) pa_nil))))))))))))))), ?_⟩
    refine ⟨fl, Hf, sp, rfl, hf, L, k _ _ (fun v H' q => q) fun cls d H1 j n he hT kq => ?_⟩
    refine ⟨true, by rw [he.cls]; exact Er.sub j he.lt, fun _ a na => ?_, fun q => nomatch q⟩
    have szl : (1000 : Nat) < sizeLine := by decide
    refine ⟨_, rfl, _, .ref (He.ga K (nmE 0)), _, _, rfl, he.cls, Er.exc j he.lt, fun u r => r, Er.kit j 0 he.lt (by decide), he.xd, ⟨_, rfl, _, .ref (He.ga K (nmE 1)), _, _, rfl, he.cls, Er.exc j he.lt, fun u r => r, Er.kit j 1 he.lt (by decide), he.xd, ⟨_, rfl, _, .ref (He.ga K (nmE 2)), _, _, rfl, he.cls, Er.exc j he.lt, fun u r => r, Er.kit j 2 he.lt (by decide), he.xd, ⟨_, rfl, _, .ref (He.ga K (nmE 3)), _, _, rfl, he.cls, Er.exc j he.lt, fun u r => r, Er.kit j 3 he.lt (by decide), he.xd, (by show 4 ≤ sizeLine; decide), fun l1 n1 => ?_⟩⟩⟩⟩
    have x1 : Ex cs H1 (upd H1 l1 (.lst ([V.bl (decide (j = 0)), V.bl (decide (j = 1)), V.bl (decide (j = 2)), V.bl (decide (j = 3))]))) := Ex.laid hT n1
    have h1 : upd H1 l1 (.lst ([V.bl (decide (j = 0)), V.bl (decide (j = 1)), V.bl (decide (j = 2)), V.bl (decide (j = 3))])) l1 = some (.lst ([V.bl (decide (j = 0)), V.bl (decide (j = 1)), V.bl (decide (j = 2)), V.bl (decide (j = 3))])) := upd_same
    generalize upd H1 l1 (.lst ([V.bl (decide (j = 0)), V.bl (decide (j = 1)), V.bl (decide (j = 2)), V.bl (decide (j = 3))])) = H2 at x1 h1 ⊢
    have he1 := he.ex x1
    refine ⟨_, rfl, ⟨_, rfl, _, .ref (He.ga K (nmE 4)), _, _, rfl, he1.cls, Er.exc j he1.lt, fun u r => r, Er.kit j 4 he1.lt (by decide), he1.xd, ⟨_, rfl, _, .ref (He.ga K (nmE 5)), _, _, rfl, he1.cls, Er.exc j he1.lt, fun u r => r, Er.kit j 5 he1.lt (by decide), he1.xd, ⟨_, rfl, _, .ref (He.ga K (nmE 6)), _, _, rfl, he1.cls, Er.exc j he1.lt, fun u r => r, Er.kit j 6 he1.lt (by decide), he1.xd, (by show 3 ≤ sizeLine; decide), fun l2 n2 => ?_⟩⟩⟩⟩
    have x2 : Ex cs H2 (upd H2 l2 (.lst ([V.bl (decide (j = 4)), V.bl (decide (j = 5)), V.bl (decide (j = 6))]))) := Ex.laid x1.tab n2
    have h2 : upd H2 l2 (.lst ([V.bl (decide (j = 4)), V.bl (decide (j = 5)), V.bl (decide (j = 6))])) l2 = some (.lst ([V.bl (decide (j = 4)), V.bl (decide (j = 5)), V.bl (decide (j = 6))])) := upd_same
    generalize upd H2 l2 (.lst ([V.bl (decide (j = 4)), V.bl (decide (j = 5)), V.bl (decide (j = 6))])) = H3 at x2 h2 ⊢
    refine ⟨l1, l2, _, _, rfl, rfl, x2.lst h1, h2, by show 7 ≤ sizeLine; decide, fun l3 n3 => ?_⟩
    have x3 : Ex cs H3 (upd H3 l3 (.lst ([V.bl (decide (j = 0)), V.bl (decide (j = 1)), V.bl (decide (j = 2)), V.bl (decide (j = 3))] ++ [V.bl (decide (j = 4)), V.bl (decide (j = 5)), V.bl (decide (j = 6))]))) := Ex.laid x2.tab n3
    have h3 : upd H3 l3 (.lst ([V.bl (decide (j = 0)), V.bl (decide (j = 1)), V.bl (decide (j = 2)), V.bl (decide (j = 3))] ++ [V.bl (decide (j = 4)), V.bl (decide (j = 5)), V.bl (decide (j = 6))])) l3 = some (.lst ([V.bl (decide (j = 0)), V.bl (decide (j = 1)), V.bl (decide (j = 2)), V.bl (decide (j = 3))] ++ [V.bl (decide (j = 4)), V.bl (decide (j = 5)), V.bl (decide (j = 6))])) := upd_same
    generalize upd H3 l3 (.lst ([V.bl (decide (j = 0)), V.bl (decide (j = 1)), V.bl (decide (j = 2)), V.bl (decide (j = 3))] ++ [V.bl (decide (j = 4)), V.bl (decide (j = 5)), V.bl (decide (j = 6))])) = H4 at x3 h3 ⊢
    have he3 := (he1.ex x2).ex x3
    refine ⟨_, rfl, ⟨_, rfl, _, .ref (He.ga K (nmE 7)), _, _, rfl, he3.cls, Er.exc j he3.lt, fun u r => r, Er.kit j 7 he3.lt (by decide), he3.xd, ⟨_, rfl, _, .ref (He.ga K (nmE 8)), _, _, rfl, he3.cls, Er.exc j he3.lt, fun u r => r, Er.kit j 8 he3.lt (by decide), he3.xd, ⟨_, rfl, _, .ref (He.ga K (nmE 9)), _, _, rfl, he3.cls, Er.exc j he3.lt, fun u r => r, Er.kit j 9 he3.lt (by decide), he3.xd, (by show 3 ≤ sizeLine; decide), fun l4 n4 => ?_⟩⟩⟩⟩
    have x4 : Ex cs H4 (upd H4 l4 (.lst ([V.bl (decide (j = 7)), V.bl (decide (j = 8)), V.bl (decide (j = 9))]))) := Ex.laid x3.tab n4
    have h4 : upd H4 l4 (.lst ([V.bl (decide (j = 7)), V.bl (decide (j = 8)), V.bl (decide (j = 9))])) l4 = some (.lst ([V.bl (decide (j = 7)), V.bl (decide (j = 8)), V.bl (decide (j = 9))])) := upd_same
    generalize upd H4 l4 (.lst ([V.bl (decide (j = 7)), V.bl (decide (j = 8)), V.bl (decide (j = 9))])) = H5 at x4 h4 ⊢
    refine ⟨l3, l4, _, _, rfl, rfl, x4.lst h3, h4, by show 10 ≤ sizeLine; decide, fun l5 n5 => ?_⟩
    have x5 : Ex cs H5 (upd H5 l5 (.lst (([V.bl (decide (j = 0)), V.bl (decide (j = 1)), V.bl (decide (j = 2)), V.bl (decide (j = 3))] ++ [V.bl (decide (j = 4)), V.bl (decide (j = 5)), V.bl (decide (j = 6))]) ++ [V.bl (decide (j = 7)), V.bl (decide (j = 8)), V.bl (decide (j = 9))]))) := Ex.laid x4.tab n5
    have h5 : upd H5 l5 (.lst (([V.bl (decide (j = 0)), V.bl (decide (j = 1)), V.bl (decide (j = 2)), V.bl (decide (j = 3))] ++ [V.bl (decide (j = 4)), V.bl (decide (j = 5)), V.bl (decide (j = 6))]) ++ [V.bl (decide (j = 7)), V.bl (decide (j = 8)), V.bl (decide (j = 9))])) l5 = some (.lst (([V.bl (decide (j = 0)), V.bl (decide (j = 1)), V.bl (decide (j = 2)), V.bl (decide (j = 3))] ++ [V.bl (decide (j = 4)), V.bl (decide (j = 5)), V.bl (decide (j = 6))]) ++ [V.bl (decide (j = 7)), V.bl (decide (j = 8)), V.bl (decide (j = 9))])) := upd_same
    generalize upd H5 l5 (.lst (([V.bl (decide (j = 0)), V.bl (decide (j = 1)), V.bl (decide (j = 2)), V.bl (decide (j = 3))] ++ [V.bl (decide (j = 4)), V.bl (decide (j = 5)), V.bl (decide (j = 6))]) ++ [V.bl (decide (j = 7)), V.bl (decide (j = 8)), V.bl (decide (j = 9))])) = H6 at x5 h5 ⊢
    have y5 := (((x1.trans x2).trans x3).trans x4).trans x5
    have he5 := he.ex y5
    have n50 : H1 l5 = none := (((x1.trans x2).trans x3).trans x4).old _ n5
    refine ⟨_, rfl, .inl ⟨rfl, _, SqL.of h5⟩, ⟨_, rfl, _, .ref (He.ga K (nmE 10)), _, _, rfl, he5.cls, Er.exc j he5.lt, fun u r => r, Er.kit j 10 he5.lt (by decide), he5.xd, l5, _, _, rfl, rfl, h5, by show 10 < sizeLine; decide, ?_⟩⟩
    have x6 : Ex cs H1 (upd H6 l5 (.lst (kindsR j 11))) := ex_new hT y5 n50
    have h6 : upd H6 l5 (.lst (kindsR j 11)) l5 = some (.lst (kindsR j 11)) := upd_same
    show tSeq _ _ _ _ (upd H6 l5 (.lst (kindsR j 11)))
    generalize upd H6 l5 (.lst (kindsR j 11)) = H7 at x6 h6 ⊢
    have he6 := he.ex x6
    have hj := he.lt
    -- one of them, and a ValueError
    refine ⟨_, rfl, .inl ⟨rfl, _, SqL.of h6⟩, l5, _, .bl true, rfl, rfl, SqL.of h6, rfl, kinds_flat j hj, rfl, false, ?_, iteF ?_⟩
    · rw [kinds_cnt j hj]
      rfl
    refine ⟨_, rfl, _, .type "ValueError", true, _, rfl, he.cls, Er.exc j hj, fun u r => r, Er.val j hj, he6.xd, true, rfl, iteF ?_⟩
    -- its name
    refine ⟨by show 9 ≤ sizeLine; decide, fun l7 n7 => ?_⟩
    have x7 := x6.trans (Ex.laid (o := .lst [V.str "BadPage", V.str "BadStyle", V.str "BadRow", V.str "BadCell", V.str "BadCount", V.str "BadLines", V.str "BadStep", V.str "BadStroke", V.str "BadText"]) x6.tab n7)
    have h7 : upd H7 l7 (.lst [V.str "BadPage", V.str "BadStyle", V.str "BadRow", V.str "BadCell", V.str "BadCount", V.str "BadLines", V.str "BadStep", V.str "BadStroke", V.str "BadText"]) l7 = some (.lst [V.str "BadPage", V.str "BadStyle", V.str "BadRow", V.str "BadCell", V.str "BadCount", V.str "BadLines", V.str "BadStep", V.str "BadStroke", V.str "BadText"]) := upd_same
    have h67 : upd H7 l7 (.lst [V.str "BadPage", V.str "BadStyle", V.str "BadRow", V.str "BadCell", V.str "BadCount", V.str "BadLines", V.str "BadStep", V.str "BadStroke", V.str "BadText"]) l5 = some (.lst (kindsR j 11)) := by rw [upd_ne (ne_of_none h6 n7)]; exact h6
    generalize upd H7 l7 (.lst [V.str "BadPage", V.str "BadStyle", V.str "BadRow", V.str "BadCell", V.str "BadCount", V.str "BadLines", V.str "BadStep", V.str "BadStroke", V.str "BadText"]) = H8 at x7 h7 h67 ⊢
    refine ⟨_, rfl, by show 2 ≤ sizeLine; decide, fun l8 n8 => ?_⟩
    have x8 := x7.trans (Ex.laid (o := .lst [V.str "BadHand", V.str "TooMuch"]) x7.tab n8)
    refine ⟨l7, l8, _, _, rfl, rfl, by rw [upd_ne (ne_of_none h7 n8)]; exact h7, upd_same, by show 11 ≤ sizeLine; decide, fun l9 n9 => ?_⟩
    have x9 := x8.trans (Ex.laid (o := .lst ([V.str "BadPage", V.str "BadStyle", V.str "BadRow", V.str "BadCell", V.str "BadCount", V.str "BadLines", V.str "BadStep", V.str "BadStroke", V.str "BadText"] ++ [V.str "BadHand", V.str "TooMuch"])) x8.tab n9)
    have h9 : upd (upd H8 l8 (.lst [V.str "BadHand", V.str "TooMuch"])) l9 (.lst ([V.str "BadPage", V.str "BadStyle", V.str "BadRow", V.str "BadCell", V.str "BadCount", V.str "BadLines", V.str "BadStep", V.str "BadStroke", V.str "BadText"] ++ [V.str "BadHand", V.str "TooMuch"])) l9 = some (.lst ([V.str "BadPage", V.str "BadStyle", V.str "BadRow", V.str "BadCell", V.str "BadCount", V.str "BadLines", V.str "BadStep", V.str "BadStroke", V.str "BadText"] ++ [V.str "BadHand", V.str "TooMuch"])) := upd_same
    have h69 : upd (upd H8 l8 (.lst [V.str "BadHand", V.str "TooMuch"])) l9 (.lst ([V.str "BadPage", V.str "BadStyle", V.str "BadRow", V.str "BadCell", V.str "BadCount", V.str "BadLines", V.str "BadStep", V.str "BadStroke", V.str "BadText"] ++ [V.str "BadHand", V.str "TooMuch"])) l5 = some (.lst (kindsR j 11)) := by
      have e := upd_ne (H := H8) (o := HO.lst [V.str "BadHand", V.str "TooMuch"]) (ne_of_none h67 n8)
      rw [upd_ne (ne_of_none (e.trans h67) n9), e]
      exact h67
    refine ⟨_, rfl, .inl ⟨rfl, _, SqL.of h69⟩, l5, _, .bl true, j, .bl true, rfl, rfl, SqL.of h69, rfl, kinds_flat j hj, kinds_at j hj, rfl, fun m z hm hz => ?_, ?_⟩
    · rw [kinds_no j hj m hm] at hz
      cases hz
      rfl
    refine names_get j hj (h9.trans rfl) ?_
    generalize upd (upd H8 l8 (.lst [V.str "BadHand", V.str "TooMuch"])) l9 (.lst ([V.str "BadPage", V.str "BadStyle", V.str "BadRow", V.str "BadCell", V.str "BadCount", V.str "BadLines", V.str "BadStep", V.str "BadStroke", V.str "BadText"] ++ [V.str "BadHand", V.str "TooMuch"])) = H9 at x9
    clear h9 h69 h7 h67 n8 n9 n7 x8 x7 h6 he6 h5 n5 x5 he5 n50 y5
    have fin : ∀ {H' : Hp}, Ex cs H1 H' → ∀ T, H' T = none → Q (.ref T) (upd H' T (.tup [.str (nmE j), .int n])) := fun {H'} x T nT => kq T _ (x.trans (Ex.laid x.tab nT)) (x.old _ nT) upd_same
    have fld : ∀ {H' : Hp} {f : Str} {Z : VK}, Ex cs H1 H' → flE j = f → f ≠ "" → Z (.int n) H' → ∃ C : Addr, XfC K C ∧ PySem.W.findIn K (.ref C) f = some none ∧ ∃ v, ([some (V.ref fl), some (V.ref a), some (V.ref l5), some (V.ref l7), some (V.str (nmE j))] : L2.St)[1]? = some (some v) ∧ v = .ref a ∧ cls = .ref C ∧ ∃ (dd : Addr) (fs : List (Str × V)) (v : V), d = some dd ∧ H' dd = some (.xd fs) ∧ fs.lookup f = some v ∧ Z v H' := fun {H' f Z} x e ne q => by
      subst e
      obtain ⟨dd, e1, e2⟩ := (he.ex x).yes ne
      exact ⟨_, xfC_of (Er.exc j hj), Er.fld j hj ne, _, rfl, rfl, he.cls, dd, _, .int n, e1, e2, by simp [List.lookup], q⟩
    refine ⟨_, rfl, by show 2 ≤ sizeLine; decide, fun t1 nt1 => ⟨t1, _, rfl, .inr (SqT.of upd_same), rfl, rfl, _, rfl, ?_⟩⟩
    have xa := x9.trans (Ex.laid (o := .tup [.str "BadPage", .str "BadText"]) x9.tab nt1)
    show if inV (.str (nmE j)) [.str "BadPage", .str "BadText"] = true then _ else _
    rw [word_in j hj]
    by_cases c1 : j = 0 ∨ j = 8
    · rw [decide_eq_true c1]
      refine iteT ⟨_, rfl, ?_⟩
      refine fld xa (by rcases c1 with rfl | rfl <;> rfl) (by decide) ⟨by show 2 ≤ sizeLine; decide, fun T nT => fin xa T nT⟩
    · rw [decide_eq_false c1]
      refine iteF ⟨_, rfl, rfl, _, rfl, ?_⟩
      have e5 : decide (V.str (nmE j) = V.str "BadLines") = decide (j = 5) := by
        rw [← word_eq j hj]
        by_cases q : nmE j = "BadLines"
        · rw [decide_eq_true q, decide_eq_true (by rw [q])]
        · rw [decide_eq_false q, decide_eq_false (fun z => q (by injection z))]
      rw [e5]
      by_cases c2 : j = 5
      · rw [decide_eq_true c2]
        refine iteT ⟨_, rfl, ?_⟩
        refine fld xa (by rw [c2]; rfl) (by decide) ⟨by show 2 ≤ sizeLine; decide, fun T nT => fin xa T nT⟩
      · rw [decide_eq_false c2]
        refine iteF ⟨_, rfl, _, rfl, by show 2 ≤ sizeLine; decide, fun t2 nt2 => ⟨t2, _, rfl, .inr (SqT.of upd_same), rfl, rfl, _, rfl, ?_⟩⟩
        have xb := xa.trans (Ex.laid (o := .tup [.str "BadStep", .str "BadStroke"]) xa.tab nt2)
        show if inV (.str (nmE j)) [.str "BadStep", .str "BadStroke"] = true then _ else _
        rw [word_in2 j hj]
        by_cases c3 : j = 6 ∨ j = 7
        · rw [decide_eq_true c3]
          refine iteT ?_
          refine fld xb (by rcases c3 with rfl | rfl <;> rfl) (by decide) ⟨by show 2 ≤ sizeLine; decide, fun T nT => fin xb T nT⟩
        · rw [decide_eq_false c3]
          have e0 := (he.no (word_fl j hj c1 c2 c3)).1
          subst e0
          exact iteF ⟨by show 2 ≤ sizeLine; decide, fun T nT => fin xb T nT⟩
end
end TG

namespace TG
open PySem PySem.Spec PyProof.Rows L2 NdefX GenW Gx Lv Dl
/-! ### _law_all of several works, each refused alike and without a change -/
section
variable {P : Program} {w : World} {K : PySem.W.Frag} {mg : Str → Option Value} {base : Heap} {cs : List (Addr × Addr)}
/-- a work that is refused with the j-th class and n, in every heap that grew out of this one -/
def Ref (P : Program) (w : World) (K : PySem.W.Frag) (mg : Str → Option Value) (base : Heap) (cs : List (Addr × Addr)) (kl : Nat) (j : Nat) (n : Int) (H : Hp) (f : Addr) : Prop := ∃ (Hf : Hp → Prop) (sp : Sp), LamW P w K mg base kl f Hf sp ∧
  ∀ H1, Ex cs H H1 → Hf H1 ∧ ∀ (Z : VK) (E : XK), (∀ (cls : Value) (d : Option Addr) (H2 : Hp), ErrAt K H2 j n cls d → Ex cs H1 H2 → E cls d H2) → sp [] H1 Z E
theorem Ref.ex {kl j : Nat} {n : Int} {H H' : Hp} {f : Addr} (r : Ref P w K mg base cs kl j n H f) (x : Ex cs H H') : Ref P w K mg base cs kl j n H' f := by
  obtain ⟨Hf, sp, L, k⟩ := r
  exact ⟨Hf, sp, L, fun H1 y => k H1 (x.trans y)⟩
def spAllW (P : Program) (w : World) (K : PySem.W.Frag) (mg : Str → Option Value) (base : Heap) (cs : List (Addr × Addr)) (kl : Nat) : Sp := fun vs H Q _ => ∃ (a dd : Addr) (fs : List Addr) (j : Nat) (n : Int),
  vs = [.ref a, .ref dd] ∧ Tabs cs H ∧ H a = some (.lst (fs.map V.ref)) ∧ H dd = some (.tup [.str (nmE j), .int n]) ∧ (∀ f ∈ fs, Ref P w K mg base cs kl j n H f) ∧ ∀ H', Ex cs H H' → Q (.bl true) H'
abbrev nmAll : List Str := ["_law_works", "_law_due", "_law_work"]
theorem sc_all : FnScope nmAll ["_law_works", "_law_due"] (defScope s_all) := ⟨rfl, rfl, rfl, by decide +kernel, rfl, by decide +kernel, by decide +kernel⟩
theorem ok_allW {f g1 g2 : Addr} {fd fd1 fd2 : FuncData} {kl : Nat} (hkl : 5 ≤ kl + 1) (F : Fun K "_law_all" "_law_all" s_all f fd)
    (G1 : FnOk P w K mg base CX0 5 g1 fd1 ["_law_found", "_law_due"] (spAlike K 4)) (k1 : PySem.W.keepIn K (.ref g1) = true) (b1 : Binds K fd1 ["_law_found", "_law_due"] []) (m1 : mg "_law_alike" = some (.ref g1))
    (G2 : FnOk P w K mg base CX0 (kl + 1) g2 fd2 ["_law_work"] (spTellsW P w K mg base cs kl)) (k2 : PySem.W.keepIn K (.ref g2) = true) (b2 : Binds K fd2 ["_law_work"] []) (m2 : mg "_law_told" = some (.ref g2)) :
    FnOk P w K mg base CX0 (kl + 2) f fd ["_law_works", "_law_due"] (spAllW P w K mg base cs kl) := by
  refine F.ok sc_all (fun vs H Q E h => ?_) (fun cdv A outer s H vs Q E hr h => ?_)
  · obtain ⟨a, dd, fs, j, n, rfl, _⟩ := h
    rfl
  · obtain ⟨a, dd, fs, j, n, rfl, hT, ha, hdd, hR, k⟩ := h
    have nd := sc_all.nd
    have hu := hr.units
    have r5 : Room 5 _ := hr.mono hkl
    refine ⟨_, pss_one (ps_ret (pe_cmpR (op_eqD hu) (pe_lc (own := [("_law_work", 2)]) (g := gName 2) rfl nd (pi_list (pv 0)) (blkOk_by (own := [("_law_work", 2)]) (N := nmAll) (sc := defScope s_all) (by decide +kernel))
        (fun _ _ _ _ _ => pg_name (i := 2) nd rfl (Or.inl rfl)) (fun _ _ _ _ _ => pts_one (pt_not (pt_val (pe_call G1 r5 (by rfl) m1 k1 b1 .nil pass0 (pa_cons (pe_call G2 hr (by rfl) m2 k2 b2 .nil pass0 (pa_cons (pv 2) pa_nil)) (pa_cons (pv 1) pa_nil)))))) (fun _ _ _ _ _ => pv 2)) (pe_lst pa_nil) (nomark _))), ?_⟩
    refine ⟨_, rfl, a, rfl, ⟨_, SqL.of ha⟩, fun D nD => ?_⟩
    refine lc_list (xs := fs.map V.ref) (fun i H' => Ex cs H H' ∧ H' D = some (.lst [])) ⟨Ex.laid hT nD, upd_same⟩ (fun i H' _ x => SqL.of (x.1.lst ha)) ?_ ?_
    · rintro i x H' hx ⟨xe, hD⟩
      rw [List.getElem?_map] at hx
      cases hg : fs[i]? with
      | none => rw [hg] at hx; cases hx
      | some fl =>
        rw [hg] at hx
        cases hx
        obtain ⟨Hf, sp, L, kk⟩ := hR fl (List.mem_of_getElem? hg)
        obtain ⟨hf, run⟩ := kk H' xe
        refine ⟨rfl, _, rfl, fl, Hf, sp, rfl, hf, L, fun Z E hZ hE => run Z E fun cls d H1 he x1 => hE cls d H1 j n he x1.tab fun T H2 x2 nT hTt => ?_⟩
        have e2 : H2 dd = some (.tup [.str (nmE j), .int n]) := x2.tup (x1.tup (xe.tup hdd))
        exact ⟨_, rfl, _, _, .tuple [.str (nmE j), .int n], rfl, .tup (SqT.of hTt) (.cons (.str _) (.cons (.int _) .nil)), .tup (SqT.of e2) (.cons (.str _) (.cons (.int _) .nil)), by simp [PyData.depth, PyData.depthAll], by simp [dok, dokAll], true, rfl, iteF ⟨(xe.trans x1).trans x2, x2.lst (x1.lst hD)⟩⟩
    · rintro H' ⟨xe, hD⟩
      refine ⟨small0, fun p np => ?_⟩
      have xp := Ex.laid (o := .lst []) xe.tab np
      exact ⟨.list [], .list [], .lst (SqL.of (xp.lst hD)) .nil, .lst (SqL.of upd_same) .nil, rfl, rfl, k _ (xe.trans xp)⟩
end
end TG

namespace TGK
open TG
open PySem PySem.Spec PyProof.Rows L2 NdefX GenW Gx Lv Dl
/-! ### works in general -/
abbrev LamT := Arguments × Expr × Scope
def sc00 : Scope := { kind := .function, names := [], isGenerator := false, isCoroutine := false }
def lam00 : LamT := ({ posonlyargs := [], args := [], vararg := none, kwonlyargs := [], kw_defaults := [], kwarg := none, defaults := [] }, .Name "x" ⟨0, 0, 0, 0⟩, sc00)
def lamOf : Expr → LamT
  | .Lambda p b sc _ => (p, b, sc)
  | _ => lam00
def stAt (l : List Stmt) (i : Nat) : Stmt := l.getD i (.Pass ⟨0, 0, 0, 0⟩)
/-- what a lambda's body wants, of what it caught -/
abbrev RW := List (Option V) → Hp → VK → XK → Prop
def spLamR (fr : List Str) (R : RW) (F : NF) : Sp := fun vs H Q E => vs = [] ∧ ∃ (ws : List (Option V)) (cl : List (Addr × Obj)), Caught F fr ws cl H ∧
  R ws (delC H cl) (fun v H' => (∀ c o, cl.lookup c = some o → H' c = none) → Q v (addC H' cl)) (fun cls d H' => (∀ c o, cl.lookup c = some o → H' c = none) → E cls d (addC H' cl))
theorem del_add {H : Hp} {cl : List (Addr × Obj)} (un : ∀ c o, cl.lookup c = some o → H c = none) : delC (addC H cl) cl = H := by
  funext b
  cases r : cl.lookup b with
  | some u => rw [delC_in r, un b u r]
  | none => rw [delC_out r, addC_out r]
theorem hfL_add {f : Addr} {F : NF} {e : Expr} {H : Hp} {cl : List (Addr × Obj)} (un : ∀ c o, cl.lookup c = some o → H c = none) (h : HfL f F e H) : HfL f F e (addC H cl) := ⟨add_at un h.1, add_at un h.2⟩
theorem hfD_add {f t : Addr} {F : NF} {e : Expr} {v : V} {H : Hp} {cl : List (Addr × Obj)} (un : ∀ c o, cl.lookup c = some o → H c = none) (h : HfD f F e t v H) : HfD f F e t v (addC H cl) := ⟨add_at un h.1, add_at un h.2.1, add_at un h.2.2⟩
/-! ### a lambda that is refused -/
theorem cell_ne (o : Obj) : ∀ ps, cellF o ≠ .tbl ps := fun ps z => by
  unfold cellF at z
  cases z
section
variable {cs : List (Addr × Addr)} {H H1 H2 : Hp} {cl : List (Addr × Obj)}
theorem ex_del (un : ∀ c o, cl.lookup c = some o → H c = none) (x : Ex cs (addC H cl) H1) : Ex cs H (delC H1 cl) := by
  have nl : ∀ {b : Addr} {o : HO}, H b = some o → cl.lookup b = none := fun {b o} h => by
    cases r : cl.lookup b with
    | none => rfl
    | some u => rw [un b u r] at h; cases h
  refine ⟨fun b o h n => ?_, fun r hr => ?_, fun b hb => ?_, fun b o h m => ?_⟩
  · rw [delC_out (nl h)]
    exact x.ext _ _ (by rw [addC_out (nl h)]; exact h) n
  · obtain ⟨ps, h1, h2⟩ := x.tab r hr
    refine ⟨ps, ?_, h2⟩
    cases e : cl.lookup r.2 with
    | none => rw [delC_out e]; exact h1
    | some u =>
      have := x.ext _ _ (addC_in (H := H) e) (cell_ne u)
      rw [h1] at this
      injection this with this
      exact absurd this.symm (cell_ne u ps)
  · cases e : cl.lookup b with
    | none =>
      rw [delC_out e] at hb
      have := x.old _ hb
      rw [addC_out e] at this
      exact this
    | some u => exact un b u e
  · rw [delC_out (nl h)]
    exact x.oth _ _ (by rw [addC_out (nl h)]; exact h) m
theorem ex_add (told : ∀ c o, cl.lookup c = some o → H1 c = some (cellF o)) (hu : ∀ c o, cl.lookup c = some o → H2 c = none) (x : Ex cs (delC H1 cl) H2) : Ex cs H1 (addC H2 cl) := by
  refine ⟨fun b o h n => ?_, fun r hr => ?_, fun b hb => ?_, fun b o h m => ?_⟩
  · cases e : cl.lookup b with
    | none => rw [addC_out e]; exact x.ext _ _ (by rw [delC_out e]; exact h) n
    | some u =>
      rw [told b u e] at h
      cases h
      exact addC_in e
  · obtain ⟨ps, h1, h2⟩ := x.tab r hr
    exact ⟨ps, add_at hu h1, h2⟩
  · cases e : cl.lookup b with
    | none =>
      rw [addC_out e] at hb
      have := x.old _ hb
      rw [delC_out e] at this
      exact this
    | some u => rw [addC_in e] at hb; cases hb
  · cases e : cl.lookup b with
    | none => rw [addC_out e]; exact x.oth _ _ (by rw [delC_out e]; exact h) m
    | some u =>
      rw [told b u e] at h
      cases h
      exact addC_in e
end
section
variable {P : Program} {w : World} {K : PySem.W.Frag} {mg : Str → Option Value} {base : Heap} {cs : List (Addr × Addr)}
theorem err_add {H : Hp} {cl : List (Addr × Obj)} {j : Nat} {n : Int} {cls : Value} {d : Option Addr} (hu : ∀ c o, cl.lookup c = some o → H c = none) (e : ErrAt K H j n cls d) : ErrAt K (addC H cl) j n cls d :=
  ⟨e.lt, e.cls, fun h => let ⟨dd, h1, h2⟩ := e.yes h; ⟨dd, h1, add_at hu h2⟩, e.no⟩
/-- a lambda whose body is refused, as a work of _law_all -/
theorem ref_of {kl j : Nat} {n : Int} {cells : List (Str × Addr)} {N N' ps fr names : List Str} {σ : L2.St} {cl : List (Addr × Obj)} {H : Hp} {f c' : Addr} {lc : List (Str × Addr)} {lam : LamT} {Hf : Hp → Prop} {qn : Str} {R : RW} {ws : List (Option V)} (sc : NScope N' ps fr lam.2.2) (hps : ∀ y, (y, NameKind.free) ∈ lam.2.2.names → y ∈ fr) (hsub : ∀ y ∈ fr, y ∈ names)
    (T : ToldC cells N names σ cl) (un : ∀ c o, cl.lookup c = some o → H c = none) (hF : lc = cloFrom cells lam.2.2.names []) (hl : ws.length = fr.length) (hw : ∀ (i : Nat) (y : Str) (v : V), fr[i]? = some y → ws[i]? = some (some v) → ∃ j : Nat, N[j]? = some y ∧ σ[j]? = some (some v))
    (hk : ∀ H1, Ex cs (addC H cl) H1 → Hf H1) (L : LamW P w K mg base kl f Hf (spLamR fr R ⟨"<lambda>", qn, lam.1, [], lam.2.2, lc, c'⟩))
    (run : ∀ H1, Ex cs H H1 → (∀ c o, cl.lookup c = some o → H1 c = none) → ∀ (Z : VK) (E' : XK), (∀ (cls : Value) (d : Option Addr) (H2 : Hp), ErrAt K H2 j n cls d → Ex cs H1 H2 → E' cls d H2) → R ws H1 Z E') :
    Ref P w K mg base cs kl j n (addC H cl) f := by
  refine ⟨Hf, _, L, fun H1 x => ⟨hk H1 x, fun Z E hE => ?_⟩⟩
  have told : ∀ c o, cl.lookup c = some o → H1 c = some (cellF o) := fun c o q => x.ext _ _ (addC_in q) (cell_ne o)
  refine ⟨rfl, ws, cl, caught_of T hF hps (fun y hy => PySem.mem_of_lookup (sc.frk y hy)) hsub hl told (fun i y v q1 q2 => hw i y v q1 q2), ?_⟩
  exact run (delC H1 cl) (ex_del un x) (fun c o q => delC_in q) _ _ fun cls d H2 he x2 hu => hE cls d _ (err_add hu he) (ex_add told hu x2)
end
end TGK

namespace TGK
open TG
open PySem PySem.Spec PyProof.Rows L2 NdefX GenW Gx Lv Dl
/-! ### a lambda is tried; what it gives, or the word of what it raised -/
theorem add_del {H : Hp} {cl : List (Addr × Obj)} (told : ∀ c o, cl.lookup c = some o → H c = some (cellF o)) : addC (delC H cl) cl = H := by
  funext b
  cases r : cl.lookup b with
  | some u => rw [addC_in r, told b u r]
  | none => rw [addC_out r, delC_out r]
section
variable {P : Program} {w : World} {K : PySem.W.Frag} {mg : Str → Option Value} {base : Heap} {cs : List (Addr × Addr)}
theorem tellsR {kl : Nat} {cells : List (Str × Addr)} {N N' ps fr names : List Str} {σ : L2.St} {cl : List (Addr × Obj)} {H : Hp} {f c' : Addr} {lc : List (Str × Addr)} {lam : LamT} {Hf : Hp → Prop} {Q0 : VK} {E : XK} {qn : Str} {R : RW} {ws : List (Option V)} (sc : NScope N' ps fr lam.2.2) (hps : ∀ y, (y, NameKind.free) ∈ lam.2.2.names → y ∈ fr) (hsub : ∀ y ∈ fr, y ∈ names)
    (T : ToldC cells N names σ cl) (un : ∀ c o, cl.lookup c = some o → H c = none) (hF : lc = cloFrom cells lam.2.2.names []) (hl : ws.length = fr.length) (hw : ∀ (i : Nat) (y : Str) (v : V), fr[i]? = some y → ws[i]? = some (some v) → ∃ j : Nat, N[j]? = some y ∧ σ[j]? = some (some v))
    (hf : Hf (addC H cl)) (L : LamW P w K mg base kl f Hf (spLamR fr R ⟨"<lambda>", qn, lam.1, [], lam.2.2, lc, c'⟩))
    (run : ∀ (Z : VK) (E' : XK), (∀ v H', ((∀ c o, cl.lookup c = some o → H' c = none) → Q0 v (addC H' cl)) → Z v H') →
      (∀ (j : Nat) (H' : Hp), j < 11 → flE j = "" → Tabs cs H' → (∀ (T : Addr) (H2 : Hp), Ex cs H' H2 → H' T = none → (∀ c o, cl.lookup c = some o → H2 c = none) → H2 T = some (.tup [.str (nmE j), .int 0]) → Q0 (.ref T) (addC H2 cl)) → E' (.ref (He.ga K (nmE j))) none H') → R ws H Z E') :
    spTellsW P w K mg base cs kl [.ref f] (addC H cl) Q0 E := by
  refine ⟨f, Hf, _, rfl, hf, L, fun Z E2 hZ hE => ?_⟩
  refine ⟨rfl, ws, cl, caught_of T hF hps (fun y hy => PySem.mem_of_lookup (sc.frk y hy)) hsub hl (fun c o q => addC_in q) (fun i y v q1 q2 => hw i y v q1 q2), ?_⟩
  rw [del_add un]
  refine run _ _ (fun v H' q hu => hZ _ _ (q hu)) fun j H' hj hfl hT kq hu => hE _ _ (addC H' cl) j 0 ⟨hj, rfl, fun n => absurd hfl n, fun _ => ⟨rfl, rfl⟩⟩ (fun r hr => ?_) fun T H2 x2 nT hTt => ?_
  · obtain ⟨ps, h1, h2⟩ := hT r hr
    exact ⟨ps, add_at hu h1, h2⟩
  · have told : ∀ c o, cl.lookup c = some o → H2 c = some (cellF o) := fun c o q => x2.ext _ _ (addC_in q) (cell_ne o)
    have nl : cl.lookup T = none := by
      cases e : cl.lookup T with
      | none => rfl
      | some u => rw [addC_in e] at nT; cases nT
    have q := kq T (delC H2 cl) (ex_del hu x2) (by rw [addC_out nl] at nT; exact nT) (fun c o q => delC_in q) (by rw [delC_out nl]; exact hTt)
    rw [add_del told] at q
    exact q
end
end TGK

namespace TG
open PySem PySem.Spec PyProof.Rows L2 NdefX GenW Gx Lv
def spTakeW : Sp := fun vs H Q _ => ∃ (b l : Addr) (many : Int), vs = [.ref b, .int many] ∧ BoxAt H b l ∧ 0 < many ∧ many < 4611686018427387904 ∧
  ∀ (r : Int) (H' : Hp), 0 ≤ r → r < many → BoxAt H' b l → KB b l H H' → Q (.int r) H'
section
variable {P : Program} {w : World} {K : PySem.W.Frag} {mg : Str → Option Value} {base : Heap}
theorem ok_takeW {f : Addr} {fd : FuncData} (F : Fun K "_law_take" "_law_take" s_take f fd) : FnOk P w K mg base CX0 1 f fd ["_law_box", "_law_many"] spTakeW := by
  refine F.ok sc_take (fun vs H Q E h => ?_) (fun cdv A outer s H vs Q E hr h => ?_)
  · obtain ⟨b, l, many, rfl, _⟩ := h
    rfl
  · obtain ⟨b, l, many, rfl, hB, m0, m1, k⟩ := h
    have nd := sc_take.nd
    have hu := hr.units
    refine ⟨_, pss_cons (ps_if (pt_cmpR (op_eqD hu) (pe_ix ix_list (pv 0) pe_int (fun _ _ => rfl)) (pe_lst pa_nil) (nomark _))
        (pss_cons (ps_asg (pe_op op_modN (pe_op op_mul (pe_ix ix_list (pv 0) pe_int (fun _ _ => rfl)) pe_int) pe_int) (pg_sub (pv 0) pe_int set_list))
          (pss_one (ps_ret (pe_op op_modN (pe_op op_fdivN (pe_ix ix_list (pv 0) pe_int (fun _ _ => rfl)) pe_int) (pv 1))))) pss_nil)
      (pss_cons (ps_set (i := 2) nd rfl (.inl rfl) (pe_ix ix_list (pe_ix ix_list (pv 0) pe_int (fun _ _ => rfl)) pe_int (fun _ _ => rfl)))
      (pss_cons (ps_asg (pe_op op_fdivW (pv 2) (pv 1)) (pg_sub (pe_ix ix_list (pv 0) pe_int (fun _ _ => rfl)) pe_int set_list))
      (pss_cons (ps_if (PW.pt (pw_or (pt_cmpR op_eq (pe_ix ix_list (pe_ix ix_list (pv 0) pe_int (fun _ _ => rfl)) pe_int (fun _ _ => rfl)) pe_int (nomark _)) (pw_or1 (pt_cmpR op_eq (pe_ix ix_list (pe_ix ix_list (pv 0) pe_int (fun _ _ => rfl)) pe_int (fun _ _ => rfl)) (pe_un un_neg pe_int) (nomark _)))))
          (pss_one (ps_expr (pe_bm PySem.F.plainAttrs_list PySem.F.slot_list_pop PySem.F.type_list_pop mt_popAt (pe_ix ix_list (pv 0) pe_int (fun _ _ => rfl)) (pa_cons pe_int pa_nil)))) pss_nil)
      (pss_one (ps_ret (pe_op op_modN (pv 2) (pv 1))))))), ?_⟩
    obtain ⟨ns, st, h1, h2, h3⟩ := id hB
    have nbl := box_ne hB
    have len2 : ∀ o, (upd H b o) l = some (.lst (ns.map V.int)) := fun o => by rw [upd_ne nbl.symm]; exact h2
    -- _law_box[0] == []
    refine ⟨_, rfl, b, _, 0, .ref l, rfl, rfl, SqL.of h1, rfl, small0, fun p np => ?_⟩
    have npb : b ≠ p := ne_of_none h1 np
    have npl : l ≠ p := ne_of_none h2 np
    have g1 : (upd H p (.lst [])) b = some (.lst [.ref l, .int st]) := by rw [upd_ne npb]; exact h1
    have g2 : (upd H p (.lst [])) l = some (.lst (ns.map V.int)) := by rw [upd_ne npl]; exact h2
    have kp : KB b l H (upd H p (.lst [])) := fun c o e _ _ => by rw [upd_ne (ne_of_none e np)]; exact e
    refine ⟨.list (ns.map PyData.int), .list [], .lst (SqL.of g2) (dp_ints ns), .lst (SqL.of upd_same) .nil, shaped_of_ints ns, rfl, _, rfl, ?_⟩
    cases ns with
    | nil =>
      refine iteT ?_
      refine ⟨_, rfl, b, _, 1, .int st, rfl, rfl, SqL.of g1, rfl, st, 48271, rfl, rfl, .inr (by decide), _, _, rfl, rfl, nz (by decide), _, rfl, b, _, 1, 1, rfl, rfl, g1, rfl, ?_⟩
      refine ⟨_, rfl, b, _, 1, _, rfl, rfl, SqL.of upd_same, rfl, _, _, rfl, rfl, ⟨by decide, by decide⟩, _, rfl, _, _, rfl, rfl, nz (by omega), ?_⟩
      refine k _ _ (Int.fmod_nonneg_of_pos _ m0) (Int.fmod_lt_of_pos _ m0) ⟨[], _, upd_same, by rw [upd_ne nbl.symm]; exact g2, h3⟩ fun c o e hc hl => ?_
      rw [upd_ne hc]
      exact kp c o e hc hl
    | cons n ns =>
      refine iteF ?_
      refine ⟨_, rfl, b, _, 0, .ref l, rfl, rfl, SqL.of g1, rfl, l, _, 0, .int n, rfl, rfl, SqL.of g2, at0, ?_⟩
      refine ⟨_, rfl, _, rfl, n, many, rfl, rfl, wide_div m0 (show many.natAbs < 2 ^ 64 by omega) (by decide) (by decide), _, rfl, b, _, 0, .ref l, rfl, rfl, SqL.of g1, rfl, l, _, 0, 0, rfl, rfl, g2, ix0, ?_⟩
      have j1 : ∀ o, (upd (upd H p (.lst [])) l o) b = some (.lst [.ref l, .int st]) := fun o => by rw [upd_ne nbl]; exact g1
      have kl : ∀ o, KB b l H (upd (upd H p (.lst [])) l o) := fun o c u e hc hl => by rw [upd_ne hl]; exact kp c u e hc hl
      have fin : ∀ ms : List Int, ms.length ≤ 63 → Q (.int (n.fmod many)) (upd (upd H p (.lst [])) l (.lst (ms.map V.int))) := fun ms hm =>
        k _ _ (Int.fmod_nonneg_of_pos _ m0) (Int.fmod_lt_of_pos _ m0) ⟨ms, st, j1 _, upd_same, hm⟩ (kl _)
      have e0 : (List.map V.int (n :: ns)).set 0 (V.int (n / many)) = List.map V.int (n / many :: ns) := rfl
      rw [e0]
      -- == 0 or == -1
      refine ⟨_, rfl, b, _, 0, .ref l, rfl, rfl, SqL.of (j1 _), rfl, l, _, 0, .int (n / many), rfl, rfl, SqL.of upd_same, at0, rfl, _, rfl, ?_⟩
      have done : ∀ H', (∃ ms : List Int, ms.length ≤ 63 ∧ H' = upd (upd H p (.lst [])) l (.lst (ms.map V.int))) → ∃ v, ([some (V.ref b), some (V.int many), some (V.int n)] : L2.St)[2]? = some (some v) ∧ ∃ v_1, ([some (V.ref b), some (V.int many), some (V.int n)] : L2.St)[1]? = some (some v_1) ∧ ∃ i j, v = V.int i ∧ v_1 = V.int j ∧ j ≠ 0 ∧ Q (V.int (i.fmod j)) H' := fun H' ⟨ms, hm, e⟩ => by
        subst e
        exact ⟨_, rfl, _, rfl, n, many, rfl, rfl, nz (by omega), fin ms hm⟩
      have pop : ∀ Z : VK, (∀ y H', H' = upd (upd H p (.lst [])) l (.lst (ns.map V.int)) → Z y H') → rPopAt (.ref l) [.int 0] (upd (upd H p (.lst [])) l (.lst (List.map V.int (n / many :: ns)))) Z := fun Z hZ =>
        ⟨l, _, 0, 0, _, rfl, rfl, upd_same, by decide, by decide, by simp [seqIndex?], rfl, hZ _ _ (by rw [upd_upd]; rfl)⟩
      have h3' : ns.length ≤ 63 := by simp at h3; omega
      by_cases hz : n / many = 0
      · rw [decide_eq_true (show V.int (n / many) = V.int 0 by rw [hz])]
        refine iteT (iteT ⟨_, rfl, b, _, 0, .ref l, rfl, rfl, SqL.of (j1 _), rfl, .inl ⟨rfl, _, SqL.of upd_same⟩, pop _ fun y H' e => done H' ⟨ns, h3', e⟩⟩)
      · rw [decide_eq_false (show ¬ V.int (n / many) = V.int 0 from fun z => hz (by injection z))]
        refine iteF ⟨_, rfl, b, _, 0, .ref l, rfl, rfl, SqL.of (j1 _), rfl, l, _, 0, .int (n / many), rfl, rfl, SqL.of upd_same, at0, 1, rfl, rfl, _, rfl, ?_⟩
        refine ite2 (fun _ => ⟨_, rfl, b, _, 0, .ref l, rfl, rfl, SqL.of (j1 _), rfl, .inl ⟨rfl, _, SqL.of upd_same⟩, pop _ fun y H' e => done H' ⟨ns, h3', e⟩⟩) fun _ => ?_
        exact done _ ⟨n / many :: ns, h3, rfl⟩
end
end TG

namespace TG
open PySem PySem.Spec PyProof.Rows L2 NdefX GenW Gx Lv Dl
/-! ### numbers that are none -/
def NoWh (lo hi : Int) (v : V) : Prop := (∃ i : Int, v = .int i ∧ ¬ (lo ≤ i ∧ i ≤ hi)) ∨ v = .non ∨ (∃ b, v = .bl b) ∨ ∃ z : Str, v = .str z
section
variable {P : Program} {w : World} {K : PySem.W.Frag} {mg : Str → Option Value} {base : Heap} {cs : List (Addr × Addr)} {B C G TM : Addr}
def spWholeN : Sp := fun vs H Q _ => ∃ (v : V) (lo hi : Int), vs = [v, .int lo, .int hi] ∧ NoWh lo hi v ∧ Q (.bl false) H
theorem ok_wholeN {f : Addr} {fd : FuncData} (T : Txt mg) (F : Fun K "is_whole" "is_whole" s_is_whole f fd) : FnOk P w K mg base CX0 1 f fd ["value", "low", "high"] spWholeN := by
  refine F.ok sc_whole (fun vs H Q E h => ?_) (fun cdv A outer s H vs Q E hr h => ?_)
  · obtain ⟨i, lo, hi, rfl, _⟩ := h
    rfl
  · obtain ⟨v, lo, hi, rfl, hv, k⟩ := h
    refine ⟨_, pss_one (ps_ret (pe_and (pe_callB call_isi (by rfl) T.isin (by decide +kernel) (pa_cons (pv 0) (pa_cons (pe_bltn (v := .ty "int") (by rfl) T.int (by decide +kernel) rfl) pa_nil)))
      (pe_and (pe_not (pe_callB call_isi (by rfl) T.isin (by decide +kernel) (pa_cons (pv 0) (pa_cons (pe_bltn (v := .ty "bool") (by rfl) T.bool (by decide +kernel) rfl) pa_nil)))) (pe_one (pe_chain op_le op_le (pv 1) (pv 0) (pv 2)))))), ?_⟩
    rcases hv with ⟨i, rfl, hn⟩ | rfl | ⟨b, rfl⟩ | ⟨z, rfl⟩
    · refine ⟨_, rfl, _, _, _, _, true, rfl, .ty _, .base (.int i), kit_ty (by decide +kernel), true, rfl, iteT ⟨_, rfl, _, _, _, _, false, rfl, .ty _, .base (.int i), kit_ty (by decide +kernel), false, rfl, true, rfl, iteT ⟨_, rfl, _, rfl, lo, i, rfl, rfl, ?_⟩⟩⟩
      by_cases h1 : lo ≤ i
      · refine ⟨true, dT h1, iteT ⟨_, rfl, i, hi, rfl, rfl, ?_⟩⟩
        show Q (.bl (decide (i ≤ hi))) H
        rw [decide_eq_false fun z => hn ⟨h1, z⟩]
        exact k
      · exact ⟨false, dF h1, iteF k⟩
    · exact ⟨_, rfl, _, _, _, _, false, rfl, .ty _, .base .non, kit_ty (by decide +kernel), false, rfl, iteF k⟩
    · exact ⟨_, rfl, _, _, _, _, true, rfl, .ty _, .base (.bl b), kit_ty (by decide +kernel), true, rfl, iteT ⟨_, rfl, _, _, _, _, true, rfl, .ty _, .base (.bl b), kit_ty (by decide +kernel), true, rfl, false, rfl, iteF k⟩⟩
    · exact ⟨_, rfl, _, _, _, _, false, rfl, .ty _, .base (.str z), kit_ty (by decide +kernel), false, rfl, iteF k⟩
/-! ### a hand that there isn't -/
abbrev NoHd (S : TSt) (v : V) : Prop := NoWh 0 ((S.spots.length : Nat) - 1) v
def spHandX (B C : Addr) : Sp := fun vs H _ E => ∃ (tb : Addr) (v : V) (a : TA) (S : TSt), vs = [.ref tb, v] ∧ TabD B H tb a S ∧ NoHd S v ∧ E (.ref C) none H
theorem ok_chandX {f g : Addr} {fd fdg : FuncData} (T : Txt mg) (Er : ErrC K mg "BadHand" C G) (X : TabC K B) (F : Fun K "check_hand" "Table.check_hand" (mth nTable 11) f fd)
    (W : FnOk P w K mg base CX0 1 g fdg ["value", "low", "high"] spWholeN) (kp : PySem.W.keepIn K (.ref g) = true) (bd : Binds K fdg ["value", "low", "high"] []) (mgg : mg "is_whole" = some (.ref g)) : FnOk P w K mg base (L2.CX P w) 2 f fd ["self", "hand"] (spHandX B C) := by
  refine F.okX sc_chand (fun vs H Q E h => ?_) (fun cdv A outer s H vs Q E hr h => ?_)
  · obtain ⟨tb, v, a, S, rfl, _⟩ := h
    rfl
  · obtain ⟨tb, v, a, S, rfl, hD, hh, k⟩ := h
    refine ⟨_, pss_one (ps_if (pt_not (pt_val (pe_call W hr (by rfl) mgg kp bd .nil pass0 (pa_cons (pv 1) (pa_cons pe_int (pa_cons (pe_op op_sub (pe_callB call_len_seq (by rfl) T.len PySem.boot_len (pa_cons (pe_fld (pv 0) rfl) pa_nil)) pe_int) pa_nil))))))
      (pss_one (ps_raise rfl (takes_of rfl rfl rfl rfl) (pmk_own PySem.F.excBase_ValueError Er.exc Er.mg_ Er.kp (raises_own Er.sub Er.ty) rfl))) pss_nil), ?_⟩
    refine ⟨_, rfl, _, rfl, tb, B, a.dx, _, _, rfl, hD.ob, X.cls, X.nSpots, rfl, a.sp, _, rfl, .inl (SqL.of hD.sp), _, _, rfl, rfl, v, _, _, rfl, ?_, false, rfl, iteT k⟩
    rw [nV_len]
    exact hh
/-- a method with a hand first, that there isn't -/
def spMX (B C : Addr) (n : Nat) : Sp := fun vs H _ E => ∃ (tb : Addr) (v : V) (us : List V) (a : TA) (S : TSt), vs = .ref tb :: v :: us ∧ us.length = n ∧ TabD B H tb a S ∧ NoHd S v ∧ E (.ref C) none H
theorem ok_pressX {f g : Addr} {fd fdg : FuncData} (X : TabC K B) (F : Fun K "press" "Table.press" (mth nTable 1) f fd)
    (M : Meth K B "check_hand" g) (G1 : FnOk P w K mg base (L2.CX P w) 2 g fdg ["self", "hand"] (spHandX B C)) (bd : Binds K fdg ["self", "hand"] []) : FnOk P w K mg base (L2.CX P w) 3 f fd ["self", "hand", "sign"] (spMX B C 1) := by
  refine F.okX sc_press (fun vs H Q E h => ?_) (fun cdv A outer s H vs Q E hr h => ?_)
  · obtain ⟨tb, v, us, a, S, rfl, hl, _⟩ := h
    show us.length + 2 = _
    rw [hl]
    rfl
  · obtain ⟨tb, v, us, a, S, rfl, hl, hD, hh, k⟩ := h
    have r2 : Room 2 _ := hr.mono (by decide)
    refine ⟨_, pss_cons (ps_expr (pe_methS (pv 0) X.cls M G1 r2 bd (fun σ => passAt (takes_of rfl rfl rfl rfl) σ) (pa_cons (pv 1) pa_nil))) (pss_cons ps_never (pss_cons ps_never (pss_cons ps_never (pss_cons ps_never (pss_cons ps_never (pss_one ps_never)))))), ?_⟩
    exact ⟨_, rfl, tb, a.dx, _, rfl, hD.ob, rfl, _, rfl, tb, v, a, S, rfl, hD, hh, k⟩
theorem ok_rubX {f g : Addr} {fd fdg : FuncData} (X : TabC K B) (F : Fun K "rub" "Table.rub" (mth nTable 2) f fd)
    (M : Meth K B "check_hand" g) (G1 : FnOk P w K mg base (L2.CX P w) 2 g fdg ["self", "hand"] (spHandX B C)) (bd : Binds K fdg ["self", "hand"] []) : FnOk P w K mg base (L2.CX P w) 3 f fd ["self", "hand"] (spMX B C 0) := by
  refine F.okX sc_trub (fun vs H Q E h => ?_) (fun cdv A outer s H vs Q E hr h => ?_)
  · obtain ⟨tb, v, us, a, S, rfl, hl, _⟩ := h
    show us.length + 2 = _
    rw [hl]
    rfl
  · obtain ⟨tb, v, us, a, S, rfl, hl, hD, hh, k⟩ := h
    have r2 : Room 2 _ := hr.mono (by decide)
    refine ⟨_, pss_cons (ps_expr (pe_methS (pv 0) X.cls M G1 r2 bd (fun σ => passAt (takes_of rfl rfl rfl rfl) σ) (pa_cons (pv 1) pa_nil))) (pss_cons ps_never (pss_cons ps_never (pss_cons ps_never (pss_one ps_never)))), ?_⟩
    exact ⟨_, rfl, tb, a.dx, _, rfl, hD.ob, rfl, _, rfl, tb, v, a, S, rfl, hD, hh, k⟩
theorem ok_backX {f g : Addr} {fd fdg : FuncData} (X : TabC K B) (F : Fun K "back" "Table.back" (mth nTable 3) f fd)
    (M : Meth K B "check_hand" g) (G1 : FnOk P w K mg base (L2.CX P w) 2 g fdg ["self", "hand"] (spHandX B C)) (bd : Binds K fdg ["self", "hand"] []) : FnOk P w K mg base (L2.CX P w) 3 f fd ["self", "hand"] (spMX B C 0) := by
  refine F.okX sc_tback (fun vs H Q E h => ?_) (fun cdv A outer s H vs Q E hr h => ?_)
  · obtain ⟨tb, v, us, a, S, rfl, hl, _⟩ := h
    show us.length + 2 = _
    rw [hl]
    rfl
  · obtain ⟨tb, v, us, a, S, rfl, hl, hD, hh, k⟩ := h
    have r2 : Room 2 _ := hr.mono (by decide)
    refine ⟨_, pss_cons (ps_expr (pe_methS (pv 0) X.cls M G1 r2 bd (fun σ => passAt (takes_of rfl rfl rfl rfl) σ) (pa_cons (pv 1) pa_nil))) (pss_cons ps_never (pss_cons ps_never (pss_cons ps_never (pss_cons ps_never (pss_one ps_never))))), ?_⟩
    exact ⟨_, rfl, tb, a.dx, _, rfl, hD.ob, rfl, _, rfl, tb, v, a, S, rfl, hD, hh, k⟩
theorem ok_againX {f g : Addr} {fd fdg : FuncData} (X : TabC K B) (F : Fun K "again" "Table.again" (mth nTable 4) f fd)
    (M : Meth K B "check_hand" g) (G1 : FnOk P w K mg base (L2.CX P w) 2 g fdg ["self", "hand"] (spHandX B C)) (bd : Binds K fdg ["self", "hand"] []) : FnOk P w K mg base (L2.CX P w) 3 f fd ["self", "hand"] (spMX B C 0) := by
  refine F.okX sc_tagain (fun vs H Q E h => ?_) (fun cdv A outer s H vs Q E hr h => ?_)
  · obtain ⟨tb, v, us, a, S, rfl, hl, _⟩ := h
    show us.length + 2 = _
    rw [hl]
    rfl
  · obtain ⟨tb, v, us, a, S, rfl, hl, hD, hh, k⟩ := h
    have r2 : Room 2 _ := hr.mono (by decide)
    refine ⟨_, pss_cons (ps_expr (pe_methS (pv 0) X.cls M G1 r2 bd (fun σ => passAt (takes_of rfl rfl rfl rfl) σ) (pa_cons (pv 1) pa_nil))) (pss_cons ps_never (pss_cons ps_never (pss_cons ps_never (pss_one ps_never)))), ?_⟩
    exact ⟨_, rfl, tb, a.dx, _, rfl, hD.ob, rfl, _, rfl, tb, v, a, S, rfl, hD, hh, k⟩
theorem sc_tleft : FnScope ["self", "hand"] ["self", "hand"] (defScope (mth nTable 5)) := ⟨rfl, rfl, rfl, by decide +kernel, rfl, by decide +kernel, by decide +kernel⟩
theorem ok_leftX {f g : Addr} {fd fdg : FuncData} (X : TabC K B) (F : Fun K "left" "Table.left" (mth nTable 5) f fd)
    (M : Meth K B "check_hand" g) (G1 : FnOk P w K mg base (L2.CX P w) 2 g fdg ["self", "hand"] (spHandX B C)) (bd : Binds K fdg ["self", "hand"] []) : FnOk P w K mg base (L2.CX P w) 3 f fd ["self", "hand"] (spMX B C 0) := by
  refine F.okX sc_tleft (fun vs H Q E h => ?_) (fun cdv A outer s H vs Q E hr h => ?_)
  · obtain ⟨tb, v, us, a, S, rfl, hl, _⟩ := h
    show us.length + 2 = _
    rw [hl]
    rfl
  · obtain ⟨tb, v, us, a, S, rfl, hl, hD, hh, k⟩ := h
    have r2 : Room 2 _ := hr.mono (by decide)
    refine ⟨_, pss_cons (ps_expr (pe_methS (pv 0) X.cls M G1 r2 bd (fun σ => passAt (takes_of rfl rfl rfl rfl) σ) (pa_cons (pv 1) pa_nil))) (pss_one ps_never), ?_⟩
    exact ⟨_, rfl, tb, a.dx, _, rfl, hD.ob, rfl, _, rfl, tb, v, a, S, rfl, hD, hh, k⟩
theorem ok_rightX {f g : Addr} {fd fdg : FuncData} (X : TabC K B) (F : Fun K "right" "Table.right" (mth nTable 6) f fd)
    (M : Meth K B "check_hand" g) (G1 : FnOk P w K mg base (L2.CX P w) 2 g fdg ["self", "hand"] (spHandX B C)) (bd : Binds K fdg ["self", "hand"] []) : FnOk P w K mg base (L2.CX P w) 3 f fd ["self", "hand"] (spMX B C 0) := by
  refine F.okX sc_tright (fun vs H Q E h => ?_) (fun cdv A outer s H vs Q E hr h => ?_)
  · obtain ⟨tb, v, us, a, S, rfl, hl, _⟩ := h
    show us.length + 2 = _
    rw [hl]
    rfl
  · obtain ⟨tb, v, us, a, S, rfl, hl, hD, hh, k⟩ := h
    have r2 : Room 2 _ := hr.mono (by decide)
    refine ⟨_, pss_cons (ps_expr (pe_methS (pv 0) X.cls M G1 r2 bd (fun σ => passAt (takes_of rfl rfl rfl rfl) σ) (pa_cons (pv 1) pa_nil))) (pss_one ps_never), ?_⟩
    exact ⟨_, rfl, tb, a.dx, _, rfl, hD.ob, rfl, _, rfl, tb, v, a, S, rfl, hD, hh, k⟩
theorem ok_atX {f g : Addr} {fd fdg : FuncData} (X : TabC K B) (F : Fun K "at" "Table.at" (mth nTable 7) f fd)
    (M : Meth K B "check_hand" g) (G1 : FnOk P w K mg base (L2.CX P w) 2 g fdg ["self", "hand"] (spHandX B C)) (bd : Binds K fdg ["self", "hand"] []) : FnOk P w K mg base (L2.CX P w) 3 f fd ["self", "hand"] (spMX B C 0) := by
  refine F.okX sc_tat (fun vs H Q E h => ?_) (fun cdv A outer s H vs Q E hr h => ?_)
  · obtain ⟨tb, v, us, a, S, rfl, hl, _⟩ := h
    show us.length + 2 = _
    rw [hl]
    rfl
  · obtain ⟨tb, v, us, a, S, rfl, hl, hD, hh, k⟩ := h
    have r2 : Room 2 _ := hr.mono (by decide)
    refine ⟨_, pss_cons (ps_expr (pe_methS (pv 0) X.cls M G1 r2 bd (fun σ => passAt (takes_of rfl rfl rfl rfl) σ) (pa_cons (pv 1) pa_nil))) (pss_cons ps_never (pss_cons ps_never (pss_one ps_never))), ?_⟩
    exact ⟨_, rfl, tb, a.dx, _, rfl, hD.ob, rfl, _, rfl, tb, v, a, S, rfl, hD, hh, k⟩
end
end TG

namespace TG
open PySem PySem.Spec PyProof.Rows L2 NdefX GenW Gx Lv Dl
/-! ### what is no text -/
def NoStr (K : PySem.W.Frag) (H : Hp) (v : V) : Prop := v = .non ∨ (∃ i, v = .int i) ∨ (∃ b, v = .bl b) ∨ (∃ t xs, v = .ref t ∧ SqT K H t xs) ∨ ∃ t xs, v = .ref t ∧ SqL K H t xs
theorem NoStr.ex {K : PySem.W.Frag} {cs : List (Addr × Addr)} {H H' : Hp} {v : V} (h : NoStr K H v) (x : Ex cs H H') : NoStr K H' v := by
  rcases h with h | h | h | ⟨t, xs, e, h⟩ | ⟨t, xs, e, h⟩
  · exact .inl h
  · exact .inr (.inl h)
  · exact .inr (.inr (.inl h))
  · exact .inr (.inr (.inr (.inl ⟨t, xs, e, x.sqT h⟩)))
  · exact .inr (.inr (.inr (.inr ⟨t, xs, e, x.sqL h⟩)))
/-- what is no mark -/
def BadMk (K : PySem.W.Frag) (H : Hp) (v : V) : Prop := (NoStr K H v ∧ ∃ d, Dp K H v d ∧ SeqAt.shaped d = true ∧ ∀ z : Str, PyData.eqv d (.str z) = false) ∨ ∃ z : Str, v = .str z ∧ z ≠ tabS ∧ z ≠ lineS ∧ z.length ≠ 1 ∧ z.length ≤ 1000 ∧ PyData.strOk z = true
section
variable {P : Program} {w : World} {K : PySem.W.Frag} {mg : Str → Option Value} {base : Heap} {cs : List (Addr × Addr)} {B C G TM : Addr}
def spTextN (K : PySem.W.Frag) : Sp := fun vs H Q _ => ∃ (v : V) (m : Int), vs = [v, .int m] ∧ (NoStr K H v ∨ ∃ z : Str, v = .str z ∧ m < (z.length : Nat) ∧ z.length ≤ 1000000) ∧ Q (.bl false) H
theorem ok_textN {f c Pt g : Addr} {fd fdg : FuncData} (T : Txt mg) (F : Fun K "is_text_of_signs" "is_text_of_signs" s_is_text f fd) (hc : fd.code = .ref c) (TB : GxR.TabB base mg c Pt)
    (G : FnOk P w K mg base CX0 1 g fdg ["sign"] spSg) (kp : PySem.W.keepIn K (.ref g) = true) (bd : Binds K fdg ["sign"] []) (mgg : mg "is_sign" = some (.ref g)) : FnOk P w K mg base CX0 5 f fd ["value", "most"] (spTextN K) := by
  refine fun_okT F hc sc_text (fun vs H Q E h => ?_) (fun A outer s H vs Q E hr h => ?_)
  · obtain ⟨z, m, rfl, _⟩ := h
    rfl
  · obtain ⟨v, m, rfl, hv, k⟩ := h
    have szl : (1000000 : Nat) ≤ sizeLine := by decide
    refine ⟨_, pss_one (ps_ret (pe_and (pe_callB call_isi (by rfl) T.isin (by decide +kernel) (pa_cons (pv 0) (pa_cons (pe_bltn (v := .ty "str") (by rfl) T.str (by decide +kernel) rfl) pa_nil)))
      (pe_and (pe_cmpR op_le (pe_callB call_len_str (by rfl) T.len PySem.boot_len (pa_cons (pv 0) pa_nil)) (pv 1) (nomark _))
        (pe_one (pe_allG (k := 1) (P := Pt) hr (by rfl) T.all TB rfl ⟨rfl, rfl, by decide +kernel, by decide +kernel, rfl, rfl⟩ (pi_str (pv 0)) (fun A' code s4 H4 fp hr' => pe_call G hr' (by rfl) mgg kp bd .nil pass0 (pa_cons (pv 0) pa_nil)) (fun _ => rfl)))))), ?_⟩
    rcases hv with (rfl | ⟨i, rfl⟩ | ⟨b, rfl⟩ | ⟨t, xs, rfl, hS⟩ | ⟨t, xs, rfl, hS⟩) | ⟨z, rfl, hm, hz⟩
    · exact ⟨_, rfl, _, _, _, _, false, rfl, .ty _, .base .non, kit_ty (by decide +kernel), false, rfl, iteF k⟩
    · exact ⟨_, rfl, _, _, _, _, false, rfl, .ty _, .base (.int i), kit_ty (by decide +kernel), false, rfl, iteF k⟩
    · exact ⟨_, rfl, _, _, _, _, false, rfl, .ty _, .base (.bl b), kit_ty (by decide +kernel), false, rfl, iteF k⟩
    · exact ⟨_, rfl, _, _, _, _, false, rfl, .ty _, ty_tup hS, kit_ty (by decide +kernel), false, rfl, iteF k⟩
    · exact ⟨_, rfl, _, _, _, _, false, rfl, .ty _, ty_list hS, kit_ty (by decide +kernel), false, rfl, iteF k⟩
    · exact ⟨_, rfl, _, _, _, _, true, rfl, .ty _, .base (.str z), kit_ty (by decide +kernel), true, rfl, iteT ⟨_, rfl, z, rfl, by omega, _, rfl, _, _, rfl, rfl, false, dF (by omega), iteF k⟩⟩
def spFilledB (K : PySem.W.Frag) (cs : List (Addr × Addr)) : Sp := fun vs H Q _ => ∃ (v : V), vs = [v, .int 1] ∧ Tabs cs H ∧ (NoStr K H v ∨ ∃ z : Str, v = .str z ∧ z.length ≠ 1 ∧ z.length ≤ 1000) ∧ ∀ H', Ex cs H H' → Q (.bl false) H'
theorem ok_filledB {f g : Addr} {fd fdg : FuncData} (F : Fun K "is_filled" "is_filled" s_filled f fd)
    (W : FnOk P w K mg base CX0 5 g fdg ["value", "most"] (orSp (spTextN K) (spText cs))) (kp : PySem.W.keepIn K (.ref g) = true) (bd : Binds K fdg ["value", "most"] []) (mgg : mg "is_text_of_signs" = some (.ref g)) : FnOk P w K mg base CX0 6 f fd ["value", "most"] (spFilledB K cs) := by
  refine F.ok sc_filled (fun vs H Q E h => ?_) (fun cdv A outer s H vs Q E hr h => ?_)
  · obtain ⟨z, rfl, _⟩ := h
    rfl
  · obtain ⟨v, rfl, hT, hv, k⟩ := h
    refine ⟨_, pss_one (ps_ret (pe_and (pe_call W hr (by rfl) mgg kp bd .nil pass0 (pa_cons (pv 0) (pa_cons (pv 1) pa_nil))) (pe_one (pe_cmpR op_ne (pv 0) pe_str (nomark _))))), ?_⟩
    rcases hv with hv | ⟨z, rfl, h1, h2⟩
    · exact ⟨_, rfl, _, rfl, .inl ⟨v, 1, rfl, .inl hv, ⟨false, rfl, iteF (k H (Ex.refl hT))⟩⟩⟩
    · by_cases h0 : z.length = 0
      · have e : z.cps.toList = [] := by
          rw [← List.length_eq_zero_iff, Array.length_toList]
          exact h0
        have ez : z = ("" : Str) := (nil_cl).mp e
        refine ⟨_, rfl, _, rfl, .inr ⟨z, 1, rfl, hT, by show (z.length : Int) ≤ 1; omega, h2, (fun c hc => by rw [e] at hc; cases hc), fun H1 x1 => ⟨true, rfl, iteT ⟨_, rfl, rfl, ?_⟩⟩⟩⟩
        rw [vstr_ne', decide_eq_false (fun n => n ez)]
        exact k H1 x1
      · exact ⟨_, rfl, _, rfl, .inl ⟨.str z, 1, rfl, .inr ⟨z, rfl, by omega, by omega⟩, ⟨false, rfl, iteF (k H (Ex.refl hT))⟩⟩⟩
def spMarkX (K : PySem.W.Frag) (cs : List (Addr × Addr)) (C : Addr) : Sp := fun vs H _ E => ∃ (v : V), vs = [v] ∧ Tabs cs H ∧ BadMk K H v ∧ ∀ H', Ex cs H H' → E (.ref C) none H'
theorem eqv_str (a b : Str) : PyData.eqv (.str a) (.str b) = decide (a = b) := by
  simp only [PyData.eqv]
  by_cases h : a = b
  · rw [h, decide_eq_true rfl]
    exact beq_self_eq_true b
  · rw [decide_eq_false h]
    exact beq_false_of_ne h
theorem shaped_str {a : Str} (h : PyData.strOk a = true) : SeqAt.shaped (.str a) = true := by
  simp [SeqAt.shaped, PyData.canLay0, PyData.depth, h]
theorem ok_cmarkX {f g : Addr} {fd fdg : FuncData} (eT : ∃ t, mg "TAB" = some (.str tabS t)) (eL : ∃ t, mg "LINE_END" = some (.str lineS t)) (Er : ErrC K mg "BadCell" C G) (F : Fun K "check_mark" "check_mark" s_check_mark f fd)
    (W : FnOk P w K mg base CX0 6 g fdg ["value", "most"] (spFilledB K cs)) (kp : PySem.W.keepIn K (.ref g) = true) (bd : Binds K fdg ["value", "most"] []) (mgg : mg "is_filled" = some (.ref g)) : FnOk P w K mg base (L2.CX P w) 7 f fd ["sign"] (spMarkX K cs C) := by
  refine F.okX sc_cmark (fun vs H Q E h => ?_) (fun cdv A outer s H vs Q E hr h => ?_)
  · obtain ⟨z, rfl, _⟩ := h
    rfl
  · obtain ⟨v, rfl, hT, hv, k⟩ := h
    obtain ⟨tt, eT⟩ := eT
    obtain ⟨tl, eL⟩ := eL
    have hu := hr.units
    refine ⟨_, pss_one (ps_if (PW.pt (pw_and (pt_cmpR (op_neD hu) (pv 0) (pe_glob (v := .str tabS) rfl eT ⟨_, rfl⟩) (nomark _)) (pw_and (pt_cmpR (op_neD hu) (pv 0) (pe_glob (v := .str lineS) rfl eL ⟨_, rfl⟩) (nomark _)) (pw_and1 (pt_not (pt_val (pe_call W hr (by rfl) mgg kp bd .nil pass0 (pa_cons (pv 0) (pa_cons pe_int pa_nil)))))))))
      (pss_one (ps_raise rfl (takes_of rfl rfl rfl rfl) (pmk_own PySem.F.excBase_ValueError Er.exc Er.mg_ Er.kp (raises_own Er.sub Er.ty) rfl))) pss_nil), ?_⟩
    have kT : PyData.strOk tabS = true := by decide +kernel
    have kL : PyData.strOk lineS = true := by decide +kernel
    rcases hv with ⟨hn, d, hd, hs, he⟩ | ⟨z, rfl, z1, z2, z3, z4, z5⟩
    · refine ⟨_, rfl, d, .str tabS, hd, .str _, hs, shaped_str kT, ?_⟩
      rw [he]
      refine ⟨true, rfl, iteT ⟨_, rfl, d, .str lineS, hd, .str _, hs, shaped_str kL, ?_⟩⟩
      rw [he]
      exact ⟨true, rfl, iteT ⟨_, rfl, v, rfl, hT, .inl hn, fun H1 x1 => ⟨false, rfl, iteT (k H1 x1)⟩⟩⟩
    · refine ⟨_, rfl, .str z, .str tabS, .str _, .str _, shaped_str z5, shaped_str kT, ?_⟩
      rw [eqv_str, decide_eq_false z1]
      refine ⟨true, rfl, iteT ⟨_, rfl, .str z, .str lineS, .str _, .str _, shaped_str z5, shaped_str kL, ?_⟩⟩
      rw [eqv_str, decide_eq_false z2]
      exact ⟨true, rfl, iteT ⟨_, rfl, .str z, rfl, hT, .inr ⟨z, rfl, z3, z4⟩, fun H1 x1 => ⟨false, rfl, iteT (k H1 x1)⟩⟩⟩
/-- what is no mark is pressed -/
def spPressB (K : PySem.W.Frag) (cs : List (Addr × Addr)) (B C : Addr) : Sp := fun vs H _ E => ∃ (tb : Addr) (h : Nat) (v : V) (a : TA) (S : TSt), vs = [.ref tb, .int (h : Nat), v] ∧ Tabs cs H ∧ TabD B H tb a S ∧ h < S.spots.length ∧ BadMk K H v ∧ ∀ H', Ex cs H H' → E (.ref C) none H'
theorem ok_pressB {f g1 g2 : Addr} {fd fd1 fd2 : FuncData} (X : TabC K B) (F : Fun K "press" "Table.press" (mth nTable 1) f fd)
    (M1 : Meth K B "check_hand" g1) (G1 : FnOk P w K mg base CX0 2 g1 fd1 ["self", "hand"] (spHand B)) (b1 : Binds K fd1 ["self", "hand"] [])
    (G2 : FnOk P w K mg base (L2.CX P w) 7 g2 fd2 ["sign"] (spMarkX K cs C)) (k2 : PySem.W.keepIn K (.ref g2) = true) (b2 : Binds K fd2 ["sign"] []) (m2 : mg "check_mark" = some (.ref g2)) : FnOk P w K mg base (L2.CX P w) 8 f fd ["self", "hand", "sign"] (spPressB K cs B C) := by
  refine F.okX sc_press (fun vs H Q E h => ?_) (fun cdv A outer s H vs Q E hr h => ?_)
  · obtain ⟨tb, h, v, a, S, rfl, _⟩ := h
    rfl
  · obtain ⟨tb, h, v, a, S, rfl, hT, hD, hh, hv, k⟩ := h
    have r2 : Room 2 _ := hr.mono (by decide)
    have r7 : Room 7 _ := hr.mono (by decide)
    refine ⟨_, pss_cons (ps_expr (pe_meth (pv 0) X.cls M1 G1 r2 b1 .nil pass0 (pa_cons (pv 1) pa_nil))) (pss_cons (ps_expr (pe_callS G2 r7 (by rfl) m2 k2 b2 (fun σ => passAt (takes_of rfl rfl rfl rfl) σ) (pa_cons (pv 2) pa_nil))) (pss_cons ps_never (pss_cons ps_never (pss_cons ps_never (pss_cons ps_never (pss_one ps_never)))))), ?_⟩
    exact ⟨_, rfl, tb, a.dx, _, rfl, hD.ob, rfl, _, rfl, tb, h, a, S, rfl, hD, hh, _, rfl, v, rfl, hT, hv, k⟩
/-! ### a table that is refused -/
def spStyleX (C : Addr) : Sp := fun vs H _ E => vs = [.non] ∧ E (.ref C) none H
theorem ok_cstyleX {f : Addr} {fd : FuncData} (T : Txt mg) (Er : ErrC K mg "BadStyle" C G) (F : Fun K "check_style" "check_style" s_check_style f fd) : FnOk P w K mg base (L2.CX P w) 2 f fd ["style"] (spStyleX C) := by
  refine F.okX sc_style (fun vs H Q E h => ?_) (fun cdv A outer s H vs Q E hr h => ?_)
  · obtain ⟨rfl, _⟩ := h
    rfl
  · obtain ⟨rfl, k⟩ := h
    refine ⟨_, pss_cons (ps_if (PW.pt (pw_or (pt_not (pt_val (pe_callB call_isi (by rfl) T.isin (by decide +kernel) (pa_cons (pv 0) (pa_cons (pe_bltn (v := .ty "tuple") (by rfl) T.tuple (by decide +kernel) rfl) pa_nil)))))
        (pw_or1 (pt_cmpR op_ne (pe_callB call_len_seq (by rfl) T.len PySem.boot_len (pa_cons (pv 0) pa_nil)) pe_int (nomark _)))))
      (pss_one (ps_raise rfl (takes_of rfl rfl rfl rfl) (pmk_own PySem.F.excBase_ValueError Er.exc Er.mg_ Er.kp (raises_own Er.sub Er.ty) rfl))) pss_nil) (pss_cons ps_never (pss_one ps_never)), ?_⟩
    exact ⟨_, rfl, _, _, _, _, false, rfl, .ty _, .base .non, kit_ty (by decide +kernel), false, rfl, iteT k⟩
/-- a page that is one, but no style; or a number of hands that can't be -/
def spTInitX (K : PySem.W.Frag) (cs : List (Addr × Addr)) (Cs Cc : Addr) : Sp := fun vs H _ E => ∃ (tb p : Addr) (sv hv : V) (as : List Addr) (rows : List (List Str)), vs = [.ref tb, .ref p, sv, hv] ∧ Tabs cs H ∧ PageAt K H p as rows ∧ PgOk rows ∧
  ((sv = .non ∧ ∀ H', Ex cs H H' → E (.ref Cs) none H') ∨ (∃ (st : Addr) (gap least : Int), sv = .ref st ∧ StyleAt K H st gap least) ∧ NoWh 1 4 hv ∧ ∀ H', Ex cs H H' → E (.ref Cc) none H')
theorem ok_tinitX {Cs Cc : Addr} {f g1 g2 g3 : Addr} {fd fd1 fd2 fd3 : FuncData} (T : Txt mg) (Er : ErrC K mg "BadCount" Cc G) (eM : ∃ t, mg "MOST_HANDS" = some (.int 4 t)) (F : Fun K "__init__" "Table.__init__" (mth nTable 0) f fd)
    (G1 : FnOk P w K mg base CX0 12 g1 fd1 ["page"] (spWrit K cs)) (k1 : PySem.W.keepIn K (.ref g1) = true) (b1 : Binds K fd1 ["page"] []) (m1 : mg "written" = some (.ref g1))
    (G2 : FnOk P w K mg base (L2.CX P w) 2 g2 fd2 ["style"] (orSp (spStyleX Cs) (spStyle K))) (k2 : PySem.W.keepIn K (.ref g2) = true) (b2 : Binds K fd2 ["style"] []) (m2 : mg "check_style" = some (.ref g2))
    (G3 : FnOk P w K mg base CX0 1 g3 fd3 ["value", "low", "high"] spWholeN) (k3 : PySem.W.keepIn K (.ref g3) = true) (b3 : Binds K fd3 ["value", "low", "high"] []) (m3 : mg "is_whole" = some (.ref g3)) : FnOk P w K mg base (L2.CX P w) 13 f fd ["self", "page", "style", "hands"] (spTInitX K cs Cs Cc) := by
  refine F.okX sc_tinit (fun vs H Q E h => ?_) (fun cdv A outer s H vs Q E hr h => ?_)
  · obtain ⟨tb, p, sv, hv, as, rows, rfl, _⟩ := h
    rfl
  · obtain ⟨tb, p, sv, hv, as, rows, rfl, hT, hP, hO, k⟩ := h
    obtain ⟨tM, eM⟩ := eM
    have nd := sc_tinit.nd
    have r2 : Room 2 _ := hr.mono (by decide)
    have r1 : Room 1 _ := hr.mono (by decide)
    refine ⟨_, pss_cons (ps_set (i := 4) nd rfl (.inl rfl) (pe_call G1 hr (by rfl) m1 k1 b1 .nil pass0 (pa_cons (pv 1) pa_nil)))
      (pss_cons (ps_expr (pe_callS G2 r2 (by rfl) m2 k2 b2 (fun σ => passAt (takes_of rfl rfl rfl rfl) σ) (pa_cons (pv 2) pa_nil)))
      (pss_cons (ps_if (pt_not (pt_val (pe_call G3 r1 (by rfl) m3 k3 b3 .nil pass0 (pa_cons (pv 3) (pa_cons pe_int (pa_cons (pe_glob (v := .int 4) rfl eM ⟨_, rfl⟩) pa_nil)))))) (pss_one (ps_raise rfl (takes_of rfl rfl rfl rfl) (pmk_own PySem.F.excBase_ValueError Er.exc Er.mg_ Er.kp (raises_own Er.sub Er.ty) rfl))) pss_nil)
      (pss_cons ps_never (pss_cons ps_never (pss_cons ps_never (pss_cons ps_never (pss_cons ps_never (pss_cons ps_never (pss_one ps_never))))))))), ?_⟩
    refine ⟨_, rfl, p, as, rows, rfl, hT, hP, hO, fun H1 x1 => ⟨_, rfl, ?_⟩⟩
    rcases k with ⟨rfl, k⟩ | ⟨⟨st, gap, least, rfl, hS⟩, hw, k⟩
    · exact .inl ⟨rfl, k H1 x1⟩
    · exact .inr ⟨st, gap, least, rfl, ⟨x1.sqT hS.tup, hS.g0, hS.g1, hS.l0, hS.l1⟩, ⟨_, rfl, hv, 1, 4, rfl, hw, ⟨false, rfl, iteT (k H1 x1)⟩⟩⟩
/-! ### where the cells begin -/
def spTBegins (K : PySem.W.Frag) (cs : List (Addr × Addr)) (B : Addr) : Sp := fun vs H Q _ => ∃ (tb : Addr) (a : TA) (S : TSt) (gap least : Int), vs = [.ref tb] ∧ Tabs cs H ∧ TabD B H tb a S ∧ TOk S ∧ StyleAt K H a.st gap least ∧ PgOk (rowsT (textR S.signs (hereR S))) ∧
  ∀ (r : Addr) (es : List Addr) (H' : Hp), Ex cs H H' → H r = none → (∀ e ∈ es, H e = none) → ToldAt H' r es (begsR (rowsT (textR S.signs (hereR S))) gap least) (rowsT (textR S.signs (hereR S))).length → Q (.ref r) H'
theorem sc_tbegins : FnScope ["self"] ["self"] (defScope (mth nTable 9)) := ⟨rfl, rfl, rfl, by decide +kernel, rfl, by decide +kernel, by decide +kernel⟩
theorem ok_tbegins {f g1 g2 : Addr} {fd fd1 fd2 : FuncData} (X : TabC K B) (F : Fun K "begins" "Table.begins" (mth nTable 9) f fd)
    (M1 : Meth K B "page" g1) (G1 : FnOk P w K mg base CX0 3 g1 fd1 ["self"] (spTPage cs B)) (b1 : Binds K fd1 ["self"] [])
    (G2 : FnOk P w K mg base CX0 14 g2 fd2 ["page", "style"] (spTold K cs begsR)) (k2 : PySem.W.keepIn K (.ref g2) = true) (b2 : Binds K fd2 ["page", "style"] []) (m2 : mg "laid" = some (.ref g2)) : FnOk P w K mg base CX0 15 f fd ["self"] (spTBegins K cs B) := by
  refine F.ok sc_tbegins (fun vs H Q E h => ?_) (fun cdv A outer s H vs Q E hr h => ?_)
  · obtain ⟨tb, a, S, gap, least, rfl, _⟩ := h
    rfl
  · obtain ⟨tb, a, S, gap, least, rfl, hT, hD, hO, hS, hP, k⟩ := h
    have r3 : Room 3 _ := hr.mono (by decide)
    refine ⟨_, pss_one (ps_ret (pe_call G2 hr (by rfl) m2 k2 b2 .nil pass0 (pa_cons (pe_meth0 (pv 0) X.cls M1 G1 r3 b1 .nil pass0) (pa_cons (pe_fld (pv 0) rfl) pa_nil)))), ?_⟩
    refine ⟨_, rfl, tb, a.dx, _, rfl, hD.ob, rfl, tb, a, S, rfl, hT, hD, hO, fun r ps H1 x1 nr hr1 hp1 => ?_⟩
    refine ⟨_, rfl, tb, B, a.dx, _, _, rfl, x1.any hD.ob (.inl fun ps z => nomatch z), X.cls, X.nStyle, rfl, r, a.st, ps, _, gap, least, rfl, x1.tab, pageAt_of hr1 hp1, hP, ⟨x1.sqT hS.tup, hS.g0, hS.g1, hS.l0, hS.l1⟩, fun r2 es H2 x2 nr2 nes tA => k r2 es H2 (x1.trans x2) (x1.old _ nr2) (fun e he => x1.old _ (nes e he).1) tA⟩
end
end TG

namespace TG
open PySem PySem.Spec PyProof.Rows L2 NdefX GenW Gx Lv Dl
/-! ### marks, whoever laid them -/
structure MkN (signs : List Str) (O : List Nat) (n0 : Nat) (D : List Deed) : Prop where
  nd : (O ++ [n0]).Nodup
  lt : ∀ m ∈ O ++ [n0], m < signs.length
  sg : ∀ m ∈ O, MarkOk (signs.getD m "")
  en : signs.getD n0 "" = ""
  one : ∀ z ∈ signs, z.length ≤ 1
  dm : ∀ d ∈ D, d.2.2.1 ∈ O
  lo : O.length + 1 ≤ signs.length
  ls : signs.length ≤ 4000
  lD : D.length ≤ 1000
def hM (O : List Nat) (D : List Deed) : List Nat := O.filter (pr D)
section
variable {signs : List Str} {O : List Nat} {n0 : Nat} {D : List Deed}
theorem MkN.n0O (t : MkN signs O n0 D) : n0 ∉ O := fun h => by
  have := (List.nodup_append.mp t.nd).2.2 n0 h n0 (by simp)
  exact this rfl
theorem MkN.prn (t : MkN signs O n0 D) : pr D n0 = true := pr_out fun d hd e => t.n0O (e ▸ t.dm d hd)
theorem MkN.those (t : MkN signs O n0 D) : thoseR (O ++ [n0]) (thereR signs.length D) = hM O D ++ [n0] := by
  rw [those_pr t.lt, List.filter_append, filt_all (l := [n0]) fun x hx => by rw [List.mem_singleton] at hx; rw [hx]; exact t.prn]
  rfl
theorem hM_mem {m : Nat} (h : m ∈ hM O D) : m ∈ O ∧ pr D m = true := List.mem_filter.mp h
theorem MkN.sgM (t : MkN signs O n0 D) : ∀ m ∈ hM O D, MarkOk (signs.getD m "") := fun m hm => t.sg m (hM_mem hm).1
theorem MkN.text (t : MkN signs O n0 D) : cl (textR signs (hM O D ++ [n0])) = clM signs (hM O D) := by
  rw [clM_eq, clM_app]
  have e : clM signs [n0] = [] := by
    show cl (signs.getD n0 "") ++ [] = []
    rw [t.en]
    decide +kernel
  rw [e, List.append_nil]
theorem MkN.tx (t : MkN signs O n0 D) : TxtSg (textR signs (hM O D ++ [n0])) := fun c hc => by
  rw [t.text] at hc
  unfold clM at hc
  obtain ⟨l, hl, hc⟩ := List.mem_flatten.mp hc
  obtain ⟨m, hm, rfl⟩ := List.mem_map.mp hl
  exact (t.sgM m hm).sg c hc
theorem MkN.rows (t : MkN signs O n0 D) : pageR signs (O ++ [n0]) D = rowsT (textR signs (hM O D ++ [n0])) := by
  unfold pageR
  rw [t.those]
theorem MkN.set (t : MkN signs O n0 D) {S : TSt} (hs : ∀ s ∈ S.spots, s ∈ O ++ [n0]) (h4 : S.spots.length ≤ 4) : SetPre S signs (O ++ [n0]) D := by
  have lo := t.lo
  have ls := t.ls
  have lD := t.lD
  refine ⟨t.one, by omega, t.lt, by rw [List.length_append]; show O.length + 1 ≤ 9000; omega, fun d hd => t.lt _ (List.mem_append_left _ (t.dm d hd)), by omega, fun s h => ⟨hs s h, n0, ?_, ?_⟩, by rw [t.those]; exact t.tx, h4⟩
  · obtain ⟨a, r, e1, e2, e3⟩ := take_idx (hs s h)
    have la : a.length ≤ O.length := by
      have := congrArg List.length e1
      rw [List.length_append, List.length_append] at this
      simp at this
      omega
    rw [← e3, List.drop_append_of_le_length la]
    exact List.mem_append_right _ (by simp)
  · rw [there_pr (t.lt n0 (by simp))]
    exact t.prn
end
/-! ### what is laid, and stands -/
section
variable {s : Str}
theorem killP {h N : Nat} (hs : MarkOk s) (b : Bool) : killD (h, s, N, b) = !b := by
  unfold killD
  have : decide (s = "") = false := decide_eq_false hs.ne
  show decide (b = decide (s = "")) = !b
  rw [this]
  cases b <;> rfl
theorem killR {h N : Nat} (b : Bool) : killD (h, ("" : Str), N, b) = b := by
  unfold killD
  show decide (b = decide (("" : Str) = "")) = b
  rw [decide_eq_true (rfl : ("" : Str) = "")]
  cases b <;> rfl
theorem sg_old {signs : List Str} {s : Str} {m : Nat} (h : m < signs.length) : (signs ++ [s]).getD m "" = signs.getD m "" := by
  rw [List.getD_eq_getElem?_getD, List.getElem?_append_left h, ← List.getD_eq_getElem?_getD]
theorem sg_new {signs : List Str} {s : Str} : (signs ++ [s]).getD signs.length "" = s := by
  rw [List.getD_eq_getElem?_getD, List.getElem?_append_right (Nat.le_refl _), Nat.sub_self]
  rfl
theorem pr_new {D : List Deed} {h N m : Nat} (hs : MarkOk s) : pr (D ++ [((h, s, N, true) : Deed)]) m = pr D m := by
  rw [pr_app, killP hs]
  simp
end
def txt (S : TSt) : Str := textR S.signs (hereR S)
theorem MkN.of {signs : List Str} {O : List Nat} {n0 : Nat} {D : List Deed} (t : MkN signs O n0 D) {D' : List Deed} (l : D'.length = D.length) (h : ∀ d ∈ D', ∃ e ∈ D, d.2.2.1 = e.2.2.1) : MkN signs O n0 D' :=
  ⟨t.nd, t.lt, t.sg, t.en, t.one, fun d hd => by
    obtain ⟨e, he, e1⟩ := h d hd
    rw [e1]
    exact t.dm e he, t.lo, t.ls, by rw [l]; exact t.lD⟩
structure AllP (S : TSt) (O : List Nat) (n0 : Nat) : Prop where
  m1 : MkN S.signs O n0 S.deeds
  ord : S.order = O ++ [n0]
  th : S.there = thereR S.signs.length S.deeds
  on : ∀ d ∈ S.deeds, d.2.2.2 = true ∧ d.2.1 ≠ ""
  sp : ∀ s ∈ S.spots, s ∈ O ++ [n0]
  un : ∀ l ∈ S.undone, l = []
  hn : S.spots.length = S.undone.length
  h4 : S.spots.length ≤ 4
/-- at which place a hand stands -/
def plc (S : TSt) (O : List Nat) (n0 h : Nat) : Nat := (O ++ [n0]).idxOf (S.spots.getD h 0)
theorem idx_unique {l : List Nat} (h : l.Nodup) {x i : Nat} (hx : x ∈ l) (h2 : l[i]? = some x) : l.idxOf x = i := by
  obtain ⟨g1, _, _⟩ := idx_nat hx
  exact nodup_inj h g1 h2
section
variable {S : TSt} {O : List Nat} {n0 h : Nat} {s : Str}
theorem AllP.prA (t : AllP S O n0) (m : Nat) : pr S.deeds m = true := by
  unfold pr
  refine List.all_eq_true.mpr fun d hd => ?_
  obtain ⟨h1, h2⟩ := t.on d hd
  have : killD d = false := by
    unfold killD
    rw [h1, decide_eq_false h2]
    rfl
  rw [this]
  rfl
theorem AllP.hMO (t : AllP S O n0) : hM O S.deeds = O := filt_all fun m _ => t.prA m
theorem AllP.here (t : AllP S O n0) : hereR S = O ++ [n0] := by
  unfold hereR
  rw [t.ord, t.th, t.m1.those, t.hMO]
theorem AllP.cl (t : AllP S O n0) : cl (txt S) = clM S.signs O := by
  unfold txt
  rw [t.here]
  have := t.m1.text
  rw [t.hMO] at this
  exact this
theorem AllP.tx (t : AllP S O n0) : TxtSg (txt S) := by
  unfold txt
  rw [t.here]
  have := t.m1.tx
  rw [t.hMO] at this
  exact this
theorem AllP.rows (t : AllP S O n0) : pageR S.signs S.order S.deeds = rowsT (txt S) := by
  unfold txt
  rw [t.ord, t.m1.rows, t.here, t.hMO]
theorem AllP.len (t : AllP S O n0) : (TG.cl (txt S)).length = O.length := by rw [t.cl, clM_ones t.m1.sg]
theorem AllP.tok (t : AllP S O n0) : TOk S := by
  have lo := t.m1.lo
  have ls := t.m1.ls
  have lD := t.m1.lD
  refine ⟨t.m1.one, by omega, by rw [t.ord]; exact t.m1.lt, by rw [t.ord, List.length_append]; show O.length + 1 ≤ 9000; omega, by rw [t.th]; exact thereR_len _ _, fun d hd => t.m1.lt _ (List.mem_append_left _ (t.m1.dm d hd)), by omega, fun x hx => ?_, t.hn, t.h4, fun l hl => ?_⟩
  · have e := t.here
    unfold hereR at e
    rw [e]
    exact t.sp x hx
  · rw [t.un l hl]
    exact ⟨Nat.zero_le _, fun n hn => nomatch hn⟩
theorem AllP.spot (t : AllP S O n0) (hh : h < S.spots.length) : (O ++ [n0])[plc S O n0 h]? = some (S.spots.getD h 0) ∧ plc S O n0 h ≤ O.length := by
  have hm : S.spots.getD h 0 ∈ O ++ [n0] := t.sp _ (List.mem_of_getElem? (getD_spot hh))
  obtain ⟨g1, g2, _⟩ := idx_nat hm
  refine ⟨g1, ?_⟩
  rw [List.length_append] at g2
  have : plc S O n0 h < O.length + 1 := g2
  omega
theorem AllP.at_ (t : AllP S O n0) (hh : h < S.spots.length) : atR S h = finP (0, 0, 0) ((TG.cl (txt S)).take (plc S O n0 h)) := by
  obtain ⟨_, le⟩ := t.spot hh
  unfold atR
  dsimp only
  rw [at_fin, clM_eq, t.here, List.take_append_of_le_length (show (O ++ [n0]).idxOf (S.spots.getD h 0) ≤ O.length from le), clM_take t.m1.sg, t.cl]
  rfl
theorem AllP.near (t : AllP S O n0) (b : Int) : nearR S h b = if 0 ≤ (plc S O n0 h : Int) + b ∧ (plc S O n0 h : Int) + b ≤ (O.length : Nat) then (O ++ [n0])[((plc S O n0 h : Int) + b).toNat]? else none := by
  unfold nearR
  rw [t.here, List.length_append]
  have e : ([n0] : List Nat).length = 1 := rfl
  rw [e]
  show (if 0 ≤ (plc S O n0 h : Int) + b ∧ (plc S O n0 h : Int) + b < ((O.length + 1 : Nat) : Int) then _ else _) = _
  by_cases c : 0 ≤ (plc S O n0 h : Int) + b ∧ (plc S O n0 h : Int) + b ≤ (O.length : Nat)
  · rw [if_pos c, if_pos ⟨c.1, by omega⟩]
    rfl
  · rw [if_neg c, if_neg fun z => c ⟨z.1, by omega⟩]
theorem AllP.go (t : AllP S O n0) (b : Int) : AllP (goR1 S h b).2 O n0 ∧ txt (goR1 S h b).2 = txt S ∧ (goR1 S h b).2.deeds = S.deeds ∧ (goR1 S h b).2.signs = S.signs ∧ (goR1 S h b).2.spots.length = S.spots.length := by
  unfold goR1
  cases e : nearR S h b with
  | none => exact ⟨t, rfl, rfl, rfl, rfl⟩
  | some m =>
    refine ⟨⟨t.m1, t.ord, t.th, t.on, fun x hx => ?_, t.un, by show (S.spots.set h m).length = _; rw [List.length_set]; exact t.hn, by show (S.spots.set h m).length ≤ 4; rw [List.length_set]; exact t.h4⟩, rfl, rfl, rfl, List.length_set⟩
    rcases List.mem_or_eq_of_mem_set hx with q | q
    · exact t.sp x q
    · rw [q]
      rw [t.near] at e
      split at e
      · exact List.mem_of_getElem? e
      · cases e
/-! ### a press -/
/-- the marks with one more -/
abbrev ins (O : List Nat) (i N : Nat) : List Nat := O.take i ++ [N] ++ O.drop i
theorem ins_mem {O : List Nat} {i N m : Nat} : m ∈ ins O i N ↔ m ∈ O ∨ m = N := by
  rw [List.mem_append, List.mem_append, List.mem_singleton]
  constructor
  · rintro ((h | h) | h)
    · exact .inl (List.mem_of_mem_take h)
    · exact .inr h
    · exact .inl (List.mem_of_mem_drop h)
  · rintro (h | h)
    · rw [← List.take_append_drop i O] at h
      rcases List.mem_append.mp h with q | q
      · exact .inl (.inl q)
      · exact .inr q
    · exact .inl (.inr h)
theorem AllP.lt (t : AllP S O n0) {m : Nat} (h : m ∈ O ++ [n0]) : m ≠ S.signs.length := fun e => by
  have := t.m1.lt m h
  omega
theorem AllP.order (t : AllP S O n0) (hh : h < S.spots.length) : ordP S h = ins O (plc S O n0 h) S.signs.length ++ [n0] := by
  obtain ⟨_, le⟩ := t.spot hh
  unfold ordP
  rw [t.ord]
  show (O ++ [n0]).take (plc S O n0 h) ++ [S.signs.length] ++ (O ++ [n0]).drop (plc S O n0 h) = _
  rw [List.take_append_of_le_length le, List.drop_append_of_le_length le]
  simp
theorem ins_perm {O : List Nat} {i N : Nat} : (ins O i N).Perm (N :: O) := by
  have := List.perm_middle (a := N) (l₁ := O.take i) (l₂ := O.drop i)
  rw [List.take_append_drop] at this
  show (O.take i ++ [N] ++ O.drop i).Perm _
  rw [List.append_assoc]
  exact this
theorem AllP.more (t : AllP S O n0) (i : Nat) (hs : MarkOk s) (b : Bool) (l1 : S.signs.length ≤ 3900) (l2 : S.deeds.length ≤ 900) : MkN (S.signs ++ [s]) (ins O i S.signs.length) n0 (S.deeds ++ [((h, s, S.signs.length, b) : Deed)]) := by
  have lS : (S.signs ++ [s]).length = S.signs.length + 1 := by rw [List.length_append]; rfl
  have NO : S.signs.length ∉ O := fun z => t.lt (List.mem_append_left _ z) rfl
  have ndO : O.Nodup := (List.nodup_append.mp t.m1.nd).1
  have len : (ins O i S.signs.length).length = O.length + 1 := by rw [ins_perm.length_eq]; rfl
  refine ⟨?_, fun m hm => ?_, fun m hm => ?_, ?_, fun z hz => ?_, fun d hd => ?_, ?_, ?_, ?_⟩
  · rw [List.nodup_append]
    refine ⟨ins_perm.nodup_iff.mpr (List.nodup_cons.mpr ⟨NO, ndO⟩), by simp, fun a ha b hb e => ?_⟩
    rw [List.mem_singleton] at hb
    rw [hb] at e
    rcases ins_mem.mp ha with q | q
    · exact t.m1.n0O (e ▸ q)
    · exact t.lt (m := n0) (by simp) (by omega)
  · rw [lS]
    rcases List.mem_append.mp hm with q | q
    · rcases ins_mem.mp q with q | q
      · have := t.m1.lt m (List.mem_append_left _ q); omega
      · omega
    · have := t.m1.lt m (List.mem_append_right _ q); omega
  · rcases ins_mem.mp hm with q | q
    · rw [sg_old (t.m1.lt m (List.mem_append_left _ q))]
      exact t.m1.sg m q
    · rw [q, sg_new]
      exact hs
  · rw [sg_old (t.m1.lt n0 (by simp))]
    exact t.m1.en
  · rcases List.mem_append.mp hz with q | q
    · exact t.m1.one z q
    · rw [List.mem_singleton] at q
      rw [q, hs.len]
      decide
  · rcases List.mem_append.mp hd with q | q
    · exact ins_mem.mpr (.inl (t.m1.dm d q))
    · rw [List.mem_singleton] at q
      rw [q]
      exact ins_mem.mpr (.inr rfl)
  · rw [len, lS]
    have := t.m1.lo
    omega
  · rw [lS]; omega
  · rw [List.length_append]
    show S.deeds.length + 1 ≤ 1000
    omega
/-- the text with a sign more -/
abbrev insT (S : TSt) (O : List Nat) (n0 h : Nat) (s : Str) : Str := textR (S.signs ++ [s]) (ins O (plc S O n0 h) S.signs.length ++ [n0])
theorem AllP.clT (t : AllP S O n0) (hs : MarkOk s) (l1 : S.signs.length ≤ 3900) (l2 : S.deeds.length ≤ 900) : TG.cl (insT S O n0 h s) = (TG.cl (txt S)).take (plc S O n0 h) ++ TG.cl s ++ (TG.cl (txt S)).drop (plc S O n0 h) := by
  have mk := t.more (h := 0) (plc S O n0 h) hs true l1 l2
  have cg : ∀ l : List Nat, (∀ m ∈ l, m ∈ O) → clM (S.signs ++ [s]) l = clM S.signs l := fun l hl => clM_cong fun m hm => sg_old (t.m1.lt m (List.mem_append_left _ (hl m hm)))
  rw [clM_eq, clM_app, clM_app, clM_app, cg _ fun m hm => List.mem_of_mem_take hm, cg _ fun m hm => List.mem_of_mem_drop hm, clM_take t.m1.sg, clM_drop t.m1.sg, t.cl]
  have e : clM (S.signs ++ [s]) [n0] = [] := by
    show TG.cl ((S.signs ++ [s]).getD n0 "") ++ [] = []
    rw [mk.en]
    decide +kernel
  have e2 : clM (S.signs ++ [s]) [S.signs.length] = TG.cl s := by
    show TG.cl ((S.signs ++ [s]).getD S.signs.length "") ++ [] = _
    rw [sg_new, List.append_nil]
  rw [e, e2, List.append_nil]
theorem AllP.dP (t : AllP S O n0) (hs : MarkOk s) : ∀ m, pr (deedP S h s) m = true := fun m => by
  unfold deedP
  rw [pr_new hs]
  exact t.prA m
theorem AllP.pgP (t : AllP S O n0) (hh : h < S.spots.length) (hs : MarkOk s) (l1 : S.signs.length ≤ 3900) (l2 : S.deeds.length ≤ 900) : pageR (S.signs ++ [s]) (ordP S h) (deedP S h s) = rowsT (insT S O n0 h s) := by
  have mk : MkN (S.signs ++ [s]) (ins O (plc S O n0 h) S.signs.length) n0 (deedP S h s) := t.more (plc S O n0 h) hs true l1 l2
  rw [t.order hh, mk.rows]
  have : hM (ins O (plc S O n0 h) S.signs.length) (deedP S h s) = ins O (plc S O n0 h) S.signs.length := filt_all fun m _ => t.dP hs m
  rw [this]
theorem AllP.setP (t : AllP S O n0) (hh : h < S.spots.length) (hs : MarkOk s) (l1 : S.signs.length ≤ 3900) (l2 : S.deeds.length ≤ 900) : SetPre S (S.signs ++ [s]) (ordP S h) (deedP S h s) := by
  have mk : MkN (S.signs ++ [s]) (ins O (plc S O n0 h) S.signs.length) n0 (deedP S h s) := t.more (plc S O n0 h) hs true l1 l2
  rw [t.order hh]
  refine mk.set (fun x hx => ?_) t.h4
  rcases List.mem_append.mp (t.sp x hx) with q | q
  · exact List.mem_append_left _ (ins_mem.mpr (.inl q))
  · exact List.mem_append_right _ q
/-- hands that stand at what is there stay -/
theorem spots_same {l : List Nat} {order : List Nat} {there : List Bool} (h : ∀ x ∈ l, x ∈ order ∧ there.getD x false = true) : l.map (firstR order there) = l := by
  have : l.map (firstR order there) = l.map id := List.map_congr_left fun x hx => (firstR_self (h x hx).1 (h x hx).2).1
  rw [this, List.map_id]
theorem AllP.in' (t : AllP S O n0) {x : Nat} (hx : x ∈ S.spots) (i : Nat) : x ∈ ins O i S.signs.length ++ [n0] := by
  rcases List.mem_append.mp (t.sp x hx) with q | q
  · exact List.mem_append_left _ (ins_mem.mpr (.inl q))
  · exact List.mem_append_right _ q
theorem AllP.press (t : AllP S O n0) (hh : h < S.spots.length) (hs : MarkOk s) (l1 : S.signs.length ≤ 3900) (l2 : S.deeds.length ≤ 900) :
    AllP (pressR S h s) (ins O (plc S O n0 h) S.signs.length) n0 ∧ txt (pressR S h s) = insT S O n0 h s ∧ (pressR S h s).spots = S.spots := by
  have mk : MkN (S.signs ++ [s]) (ins O (plc S O n0 h) S.signs.length) n0 (deedP S h s) := t.more (plc S O n0 h) hs true l1 l2
  have es : (pressR S h s).spots = S.spots := by
    show S.spots.map (firstR (ordP S h) (thereR (S.signs ++ [s]).length (deedP S h s))) = _
    refine spots_same fun x hx => ⟨by rw [t.order hh]; exact t.in' hx _, ?_⟩
    rw [there_pr (mk.lt x (t.in' hx _))]
    exact t.dP hs x
  have a : AllP (pressR S h s) (ins O (plc S O n0 h) S.signs.length) n0 := by
    refine ⟨mk, t.order hh, rfl, fun d hd => ?_, fun x hx => ?_, fun l hl => ?_, by rw [es]; show _ = (S.undone.set h []).length; rw [List.length_set]; exact t.hn, by rw [es]; exact t.h4⟩
    · rcases List.mem_append.mp (show d ∈ S.deeds ++ [((h, s, S.signs.length, true) : Deed)] from hd) with q | q
      · exact t.on d q
      · rw [List.mem_singleton] at q
        rw [q]
        exact ⟨rfl, hs.ne⟩
    · rw [es] at hx
      exact t.in' hx _
    · rcases List.mem_or_eq_of_mem_set (show l ∈ S.undone.set h [] from hl) with q | q
      · exact t.un l q
      · exact q
  refine ⟨a, ?_, es⟩
  unfold txt
  rw [a.here]
  rfl
/-! ### it is taken back, and let stand again -/
/-- the last deed's press doesn't stand -/
structure OffP (S S2 : TSt) (O : List Nat) (n0 h : Nat) (s : Str) : Prop where
  sg : S2.signs = S.signs ++ [s]
  od : S2.order = ins O (plc S O n0 h) S.signs.length ++ [n0]
  ds : S2.deeds = S.deeds ++ [((h, s, S.signs.length, false) : Deed)]
  th : S2.there = thereR S2.signs.length S2.deeds
  sp : S2.spots = S.spots
  un : S2.undone.length = S.undone.length ∧ (∀ l ∈ S2.undone, l = [] ∨ l = [S.deeds.length]) ∧ S2.undone.getD h [] = [S.deeds.length] ∧ ∀ l ∈ S2.undone.set h [], l = []
theorem stR_mem {ds : List Deed} {h n i : Nat} (m : i ∈ stR ds h n) : i < n := stR_lt m
theorem AllP.stand (t : AllP S O n0) (hs : MarkOk s) : (stR (deedP S h s) h (deedP S h s).length).getLast? = some S.deeds.length := by
  have l : (deedP S h s).length = S.deeds.length + 1 := by unfold deedP; rw [List.length_append]; rfl
  have g : (deedP S h s)[S.deeds.length]? = some ((h, s, S.signs.length, true) : Deed) := by
    unfold deedP
    rw [List.getElem?_append_right (Nat.le_refl _), Nat.sub_self]
    rfl
  rw [l, stR_succ g, if_pos (by simp)]
  simp
theorem turn_P (k : Nat) (b : Bool) (S1 : TSt) : ∀ d ∈ turnR S1 k b, ∃ e ∈ S1.deeds, d.2.2.1 = e.2.2.1 := fun d hd => by
  unfold turnR at hd
  cases e : S1.deeds[k]? with
  | none => rw [e] at hd; exact ⟨d, hd, rfl⟩
  | some x =>
    rw [e] at hd
    rcases List.mem_or_eq_of_mem_set hd with q | q
    · exact ⟨d, q, rfl⟩
    · exact ⟨x, List.mem_of_getElem? e, by rw [q]⟩
theorem MkN.setT {S1 : TSt} {O1 : List Nat} (mk : MkN S1.signs O1 n0 S1.deeds) (od : S1.order = O1 ++ [n0]) (sp : ∀ x ∈ S1.spots, x ∈ O1 ++ [n0]) (h4 : S1.spots.length ≤ 4) (k : Nat) (b : Bool) : SetPre S1 S1.signs S1.order (turnR S1 k b) := by
  rw [od]
  exact (mk.of (turnR_len S1 k b) (turn_P k b S1)).set sp h4
theorem set_last {α : Type} (l : List α) (x y : α) : (l ++ [x]).set l.length y = l ++ [y] := by
  rw [List.set_append_right _ _ (Nat.le_refl _), Nat.sub_self]
  rfl
theorem get_last {α : Type} (l : List α) (x : α) : (l ++ [x])[l.length]? = some x := by
  rw [List.getElem?_append_right (Nat.le_refl _), Nat.sub_self]
  rfl
theorem AllP.prOff (t : AllP S O n0) (hs : MarkOk s) (m : Nat) : pr (S.deeds ++ [((h, s, S.signs.length, false) : Deed)]) m = !decide (S.signs.length = m) := by
  rw [pr_app, t.prA, killP hs]
  simp
theorem AllP.hMoff (t : AllP S O n0) (hs : MarkOk s) (i : Nat) : hM (ins O i S.signs.length) (S.deeds ++ [((h, s, S.signs.length, false) : Deed)]) = O := by
  unfold hM
  have nf : ∀ l : List Nat, (∀ m ∈ l, m ∈ O) → l.filter (pr (S.deeds ++ [((h, s, S.signs.length, false) : Deed)])) = l := fun l hl => filt_all fun x hx => by
    have := t.lt (List.mem_append_left _ (hl x hx))
    rw [t.prOff hs]
    simp [Ne.symm this]
  rw [List.filter_append, List.filter_append, nf _ fun m hm => List.mem_of_mem_take hm, nf _ fun m hm => List.mem_of_mem_drop hm]
  have e : [S.signs.length].filter (pr (S.deeds ++ [((h, s, S.signs.length, false) : Deed)])) = [] := by
    rw [List.filter_cons, t.prOff hs]
    simp
  rw [e, List.append_nil, List.take_append_drop]
theorem AllP.txOff (t : AllP S O n0) : textR (S.signs ++ [s]) (O ++ [n0]) = txt S := by
  refine str_of ?_
  rw [clM_eq, t.cl, clM_app]
  have cg : clM (S.signs ++ [s]) O = clM S.signs O := clM_cong fun m hm => sg_old (t.m1.lt m (List.mem_append_left _ hm))
  have e : clM (S.signs ++ [s]) [n0] = [] := by
    show TG.cl ((S.signs ++ [s]).getD n0 "") ++ [] = []
    rw [sg_old (t.m1.lt n0 (by simp)), t.m1.en]
    decide +kernel
  rw [cg, e, List.append_nil]
theorem AllP.pgOff (t : AllP S O n0) (hs : MarkOk s) (l1 : S.signs.length ≤ 3900) (l2 : S.deeds.length ≤ 900) (i : Nat) : pageR (S.signs ++ [s]) (ins O i S.signs.length ++ [n0]) (S.deeds ++ [((h, s, S.signs.length, false) : Deed)]) = rowsT (txt S) := by
  rw [(t.more (h := h) i hs false l1 l2).rows, t.hMoff hs, t.txOff]
theorem turn_off {S1 : TSt} {ds : List Deed} {h N : Nat} {s : Str} {b : Bool} (b2 : Bool) (e : S1.deeds = ds ++ [((h, s, N, b) : Deed)]) : turnR S1 ds.length b2 = ds ++ [((h, s, N, b2) : Deed)] := by
  unfold turnR
  rw [e, get_last]
  show (ds ++ [((h, s, N, b) : Deed)]).set ds.length _ = _
  rw [set_last]
theorem AllP.back (t : AllP S O n0) (hh : h < S.spots.length) (hs : MarkOk s) (l1 : S.signs.length ≤ 3900) (l2 : S.deeds.length ≤ 900) :
    (backR (pressR S h s) h).1 = true ∧ OffP S (backR (pressR S h s) h).2 O n0 h s := by
  obtain ⟨a, _, es⟩ := t.press hh hs l1 l2
  have eb : backR (pressR S h s) h = (true, { settleR (pressR S h s) (S.signs ++ [s]) (ordP S h) (S.deeds ++ [((h, s, S.signs.length, false) : Deed)]) with undone := (S.undone.set h []).set h ((S.undone.set h []).getD h [] ++ [S.deeds.length]) }) := by
    have l : (stR (pressR S h s).deeds h (pressR S h s).deeds.length).getLast? = some S.deeds.length := t.stand (h := h) hs
    unfold backR
    rw [l]
    have := turn_off (S1 := pressR S h s) (ds := S.deeds) (h := h) (N := S.signs.length) (s := s) (b := true) false rfl
    show (true, _) = _
    rw [this]
    rfl
  rw [eb]
  have hu : h < S.undone.length := by rw [← t.hn]; exact hh
  have u0 : (S.undone.set h []).getD h [] = [] := by
    rw [List.getD_eq_getElem?_getD, List.getElem?_set_self hu]
    rfl
  refine ⟨rfl, ⟨rfl, t.order hh, rfl, rfl, ?_, ?_⟩⟩
  · show (pressR S h s).spots.map (firstR (ordP S h) (thereR (S.signs ++ [s]).length (S.deeds ++ [((h, s, S.signs.length, false) : Deed)]))) = _
    rw [es]
    refine spots_same fun x hx => ⟨by rw [t.order hh]; exact t.in' hx _, ?_⟩
    rw [there_pr ((t.more (h := h) (plc S O n0 h) hs false l1 l2).lt x (t.in' hx _)), t.prOff hs]
    have := t.lt (t.sp x hx)
    simp [Ne.symm this]
  · have eu : (S.undone.set h []).set h ((S.undone.set h []).getD h [] ++ [S.deeds.length]) = S.undone.set h [S.deeds.length] := by
      rw [u0, List.set_set]
      rfl
    show ((S.undone.set h []).set h ((S.undone.set h []).getD h [] ++ [S.deeds.length])).length = _ ∧ (∀ l ∈ (S.undone.set h []).set h ((S.undone.set h []).getD h [] ++ [S.deeds.length]), _) ∧ ((S.undone.set h []).set h ((S.undone.set h []).getD h [] ++ [S.deeds.length])).getD h [] = _ ∧ ∀ l ∈ ((S.undone.set h []).set h ((S.undone.set h []).getD h [] ++ [S.deeds.length])).set h [], _
    rw [eu]
    refine ⟨by rw [List.length_set], fun l hl => ?_, ?_, fun l hl => ?_⟩
    · rcases List.mem_or_eq_of_mem_set hl with q | q
      · exact .inl (t.un l q)
      · exact .inr q
    · rw [List.getD_eq_getElem?_getD, List.getElem?_set_self hu]
      rfl
    · rw [List.set_set] at hl
      rcases List.mem_or_eq_of_mem_set hl with q | q
      · exact t.un l q
      · exact q
section
variable {S2 : TSt}
theorem OffP.mk' (o : OffP S S2 O n0 h s) (t : AllP S O n0) (hs : MarkOk s) (l1 : S.signs.length ≤ 3900) (l2 : S.deeds.length ≤ 900) : MkN S2.signs (ins O (plc S O n0 h) S.signs.length) n0 S2.deeds := by
  rw [o.sg, o.ds]
  exact t.more (plc S O n0 h) hs false l1 l2
theorem OffP.here (o : OffP S S2 O n0 h s) (t : AllP S O n0) (hs : MarkOk s) (l1 : S.signs.length ≤ 3900) (l2 : S.deeds.length ≤ 900) : hereR S2 = O ++ [n0] := by
  have mk := o.mk' t hs l1 l2
  unfold hereR
  rw [o.od, o.th, mk.those, o.ds, t.hMoff hs]
theorem OffP.txt (o : OffP S S2 O n0 h s) (t : AllP S O n0) (hs : MarkOk s) (l1 : S.signs.length ≤ 3900) (l2 : S.deeds.length ≤ 900) : TG.txt S2 = TG.txt S := by
  show textR S2.signs (hereR S2) = _
  rw [o.here t hs l1 l2, o.sg, t.txOff]
theorem OffP.tok (o : OffP S S2 O n0 h s) (t : AllP S O n0) (hs : MarkOk s) (l1 : S.signs.length ≤ 3900) (l2 : S.deeds.length ≤ 900) : TOk S2 := by
  have mk := o.mk' t hs l1 l2
  have lo := mk.lo
  have ls := mk.ls
  have lD := mk.lD
  have eh := o.here t hs l1 l2
  refine ⟨mk.one, by omega, by rw [o.od]; exact mk.lt, by rw [o.od, List.length_append]; show _ + 1 ≤ 9000; omega, by rw [o.th]; exact thereR_len _ _, fun d hd => mk.lt _ (List.mem_append_left _ (mk.dm d hd)), by omega, fun x hx => ?_, by rw [o.sp, o.un.1]; exact t.hn, by rw [o.sp]; exact t.h4, fun l hl => ?_⟩
  · unfold hereR at eh
    rw [eh]
    rw [o.sp] at hx
    exact t.sp x hx
  · rcases o.un.2.1 l hl with q | q
    · rw [q]
      exact ⟨Nat.zero_le _, fun n hn => nomatch hn⟩
    · rw [q]
      refine ⟨by show 1 ≤ 9000; decide, fun n hn => ?_⟩
      rw [List.mem_singleton] at hn
      rw [hn, o.ds, List.length_append]
      exact Nat.lt_succ_self _
theorem OffP.setT (o : OffP S S2 O n0 h s) (t : AllP S O n0) (hs : MarkOk s) (l1 : S.signs.length ≤ 3900) (l2 : S.deeds.length ≤ 900) (k : Nat) (b : Bool) : SetPre S2 S2.signs S2.order (turnR S2 k b) :=
  (o.mk' t hs l1 l2).setT o.od (fun x hx => by rw [o.sp] at hx; exact t.in' hx _) (by rw [o.sp]; exact t.h4) k b
theorem OffP.pg (o : OffP S S2 O n0 h s) (t : AllP S O n0) (hh : h < S.spots.length) (hs : MarkOk s) (l1 : S.signs.length ≤ 3900) (l2 : S.deeds.length ≤ 900) : pageR S2.signs S2.order (turnR S2 S.deeds.length true) = rowsT (insT S O n0 h s) := by
  rw [turn_off true o.ds, o.sg, o.od, ← t.order hh]
  exact t.pgP hh hs l1 l2
theorem OffP.again (o : OffP S S2 O n0 h s) (t : AllP S O n0) (hh : h < S.spots.length) (hs : MarkOk s) (l1 : S.signs.length ≤ 3900) (l2 : S.deeds.length ≤ 900) :
    (againR S2 h).1 = true ∧ AllP (againR S2 h).2 (ins O (plc S O n0 h) S.signs.length) n0 ∧ TG.txt (againR S2 h).2 = insT S O n0 h s ∧ (againR S2 h).2.spots.length = S.spots.length ∧ (againR S2 h).2.deeds.length = S.deeds.length + 1 ∧ (againR S2 h).2.signs.length = S.signs.length + 1 := by
  have mk : MkN (S.signs ++ [s]) (ins O (plc S O n0 h) S.signs.length) n0 (S.deeds ++ [((h, s, S.signs.length, true) : Deed)]) := t.more (plc S O n0 h) hs true l1 l2
  have ea : againR S2 h = (true, { settleR S2 S2.signs S2.order (S.deeds ++ [((h, s, S.signs.length, true) : Deed)]) with undone := S2.undone.set h (S2.undone.getD h []).dropLast }) := by
    have e2 : (S2.undone.getD h []).getLast? = some S.deeds.length := by rw [o.un.2.2.1]; rfl
    unfold againR
    rw [e2]
    show (true, _) = _
    rw [turn_off true o.ds]
  rw [ea]
  have es : S2.spots.map (firstR S2.order (thereR S2.signs.length (S.deeds ++ [((h, s, S.signs.length, true) : Deed)]))) = S.spots := by
    rw [o.sp]
    refine spots_same fun x hx => ⟨by rw [o.od]; exact t.in' hx _, ?_⟩
    rw [o.sg, there_pr (mk.lt x (t.in' hx _))]
    exact t.dP hs x
  have a : AllP { settleR S2 S2.signs S2.order (S.deeds ++ [((h, s, S.signs.length, true) : Deed)]) with undone := S2.undone.set h (S2.undone.getD h []).dropLast } (ins O (plc S O n0 h) S.signs.length) n0 := by
    refine ⟨by show MkN S2.signs _ _ _; rw [o.sg]; exact mk, o.od, rfl, fun d hd => ?_, fun x hx => ?_, fun l hl => ?_, ?_, ?_⟩
    · rcases List.mem_append.mp (show d ∈ S.deeds ++ [((h, s, S.signs.length, true) : Deed)] from hd) with q | q
      · exact t.on d q
      · rw [List.mem_singleton] at q
        rw [q]
        exact ⟨rfl, hs.ne⟩
    · have hx : x ∈ S2.spots.map (firstR S2.order (thereR S2.signs.length (S.deeds ++ [((h, s, S.signs.length, true) : Deed)]))) := hx
      rw [es] at hx
      exact t.in' hx _
    · have hl : l ∈ S2.undone.set h (S2.undone.getD h []).dropLast := hl
      rw [o.un.2.2.1] at hl
      exact o.un.2.2.2 l hl
    · show (S2.spots.map _).length = (S2.undone.set h _).length
      rw [es, List.length_set, o.un.1]
      exact t.hn
    · show (S2.spots.map _).length ≤ 4
      rw [es]
      exact t.h4
  refine ⟨rfl, a, ?_, ?_, ?_, ?_⟩
  · unfold TG.txt
    rw [a.here]
    show textR S2.signs _ = _
    rw [o.sg]
  · show (S2.spots.map _).length = _
    rw [es]
  · show (S.deeds ++ [((h, s, S.signs.length, true) : Deed)]).length = _
    rw [List.length_append]
    rfl
  · show S2.signs.length = _
    rw [o.sg, List.length_append]
    rfl
end
/-! ### a rub -/
theorem AllP.rub (t : AllP S O n0) (hh : h < S.spots.length) (l2 : S.deeds.length ≤ 900) {m : Nat} (hm : nearR S h (-1) = some m) : ∃ (i x : Nat) (y : Str), plc S O n0 h = i + 1 ∧ SetPre S S.signs S.order (S.deeds ++ [((h, ("" : Str), m, true) : Deed)]) ∧ pageR S.signs S.order (S.deeds ++ [((h, ("" : Str), m, true) : Deed)]) = rowsT y ∧ TxtSg y ∧
    TG.cl y = (TG.cl (txt S)).take i ++ (TG.cl (txt S)).drop (i + 1) ∧ (TG.cl (txt S))[i]? = some x := by
  rw [t.near] at hm
  split at hm
  · rename_i c
    obtain ⟨i, hi⟩ : ∃ i, plc S O n0 h = i + 1 := ⟨plc S O n0 h - 1, by omega⟩
    have le := (t.spot hh).2
    have e1 : ((plc S O n0 h : Int) + (-1)).toNat = i := by omega
    rw [e1, List.getElem?_append_left (by omega)] at hm
    have hO : m ∈ O := List.mem_of_getElem? hm
    have mk : MkN S.signs O n0 (S.deeds ++ [((h, ("" : Str), m, true) : Deed)]) := by
      refine ⟨t.m1.nd, t.m1.lt, t.m1.sg, t.m1.en, t.m1.one, fun d hd => ?_, t.m1.lo, t.m1.ls, by rw [List.length_append]; show _ + 1 ≤ 1000; omega⟩
      rcases List.mem_append.mp hd with q | q
      · exact t.m1.dm d q
      · rw [List.mem_singleton] at q
        rw [q]
        exact hO
    have hp : ∀ x, pr (S.deeds ++ [((h, ("" : Str), m, true) : Deed)]) x = !decide (m = x) := fun x => by
      rw [pr_app, t.prA, killR]
      simp
    have hi2 : i < O.length := (List.getElem?_eq_some_iff.mp hm).1
    have split : O = O.take i ++ m :: O.drop (i + 1) := by
      conv => lhs; rw [← List.take_append_drop i O]
      rw [List.drop_eq_getElem_cons hi2]
      rw [List.getElem?_eq_getElem hi2] at hm
      injection hm with hm
      rw [hm]
    have ndO : O.Nodup := (List.nodup_append.mp t.m1.nd).1
    have eM : hM O (S.deeds ++ [((h, ("" : Str), m, true) : Deed)]) = O.take i ++ O.drop (i + 1) := by
      have nd2 := ndO
      rw [split] at nd2
      have key : ∀ l : List Nat, m ∉ l → l.filter (pr (S.deeds ++ [((h, ("" : Str), m, true) : Deed)])) = l := fun l hl => filt_all fun x hx => by
        rw [hp]
        have : m ≠ x := fun e => hl (e ▸ hx)
        simp [this]
      have n1 := List.nodup_append.mp nd2
      have m1 : m ∉ O.take i := fun z => n1.2.2 m z m (by simp) rfl
      have m2 : m ∉ O.drop (i + 1) := (List.nodup_cons.mp n1.2.1).1
      unfold hM
      conv => lhs; rw [split]
      rw [List.filter_append, List.filter_cons, hp, if_neg (by simp), key _ m1, key _ m2]
    have tx := mk.tx
    have tt := mk.text
    rw [eM] at tx tt
    obtain ⟨x, hx⟩ : ∃ x, (TG.cl (txt S))[i]? = some x := ⟨_, List.getElem?_eq_getElem (by rw [t.len]; exact hi2)⟩
    refine ⟨i, x, textR S.signs (O.take i ++ O.drop (i + 1) ++ [n0]), hi, ?_, ?_, tx, ?_, hx⟩
    · rw [t.ord]
      exact mk.set t.sp t.h4
    · rw [t.ord, mk.rows, eM]
    · rw [tt, clM_app, clM_take t.m1.sg, clM_drop t.m1.sg, t.cl]
  · cases hm
theorem AllP.again0 (t : AllP S O n0) : againR S h = (false, S) := by
  unfold againR
  have : S.undone.getD h [] = [] := by
    rw [List.getD_eq_getElem?_getD]
    cases e : S.undone[h]? with
    | none => rfl
    | some l => exact t.un l (List.mem_of_getElem? e)
  rw [this]
  rfl
end
/-! ### a table at its begin -/
theorem sg_getD {z : Str} {m : Nat} : cl ((sgS z ++ [("" : Str)]).getD m "") = (cl z)[m]?.toList := by
  have e0 : cl ("" : Str) = [] := by decide +kernel
  have ez : (cl z).length = z.length := (len_cl z).symm
  rw [List.getD_eq_getElem?_getD]
  by_cases h : m < z.length
  · rw [List.getElem?_append_left (by rw [sgS_len]; exact h)]
    unfold sgS
    rw [List.getElem?_map]
    have e : z.cps.toList[m]? = (cl z)[m]? := rfl
    rw [e, List.getElem?_eq_getElem (by omega)]
    rfl
  · have e : (cl z)[m]? = none := List.getElem?_eq_none (by omega)
    rw [e]
    rw [List.getElem?_append_right (by rw [sgS_len]; omega), sgS_len]
    cases q : ([("" : Str)] : List Str)[m - z.length]? with
    | none => exact e0
    | some x =>
      have := List.mem_of_getElem? q
      rw [List.mem_singleton] at this
      rw [this]
      exact e0
theorem flat_range (l : List Nat) : ∀ (n s : Nat), ((List.range' s n).map fun m => l[m]?.toList).flatten = (l.drop s).take n
  | 0, s => by simp
  | n + 1, s => by
    rw [List.range'_succ, List.map_cons, List.flatten_cons, flat_range l n (s + 1)]
    by_cases h : s < l.length
    · rw [List.getElem?_eq_getElem h, List.drop_eq_getElem_cons h]
      rfl
    · rw [List.getElem?_eq_none (by omega), List.drop_eq_nil_of_le (by omega), List.drop_eq_nil_of_le (by omega)]
      simp
theorem mem_joinL {S : List Nat} {c : Nat} : ∀ {l : List (List Nat)}, c ∈ TL.joinL S l → c ∈ S ∨ ∃ x ∈ l, c ∈ x
  | [], h => by cases h
  | [p], h => .inr ⟨p, by simp, h⟩
  | p :: q :: r, h => by
    have h : c ∈ p ++ (S ++ TL.joinL S (q :: r)) := h
    rw [List.mem_append, List.mem_append] at h
    rcases h with h | h | h
    · exact .inr ⟨p, by simp, h⟩
    · exact .inl h
    · rcases mem_joinL h with z | ⟨x, hx, z⟩
      · exact .inl z
      · exact .inr ⟨x, List.mem_cons_of_mem _ hx, z⟩
theorem page_tx {rows : List (List Str)} (h : PgOk rows) : TxtSg (pageT rows) := fun c hc => by
  unfold pageT at hc
  rw [cl_joinL, cl_lineS] at hc
  rcases mem_joinL hc with z | ⟨x, hx, z⟩
  · rw [List.mem_singleton] at z
    exact .inr (.inr z)
  · obtain ⟨t, ht, rfl⟩ := List.mem_map.mp hx
    obtain ⟨r, hr, rfl⟩ := List.mem_map.mp ht
    unfold rowT at z
    rw [cl_joinL, cl_tabS] at z
    rcases mem_joinL z with z | ⟨x, hx, z⟩
    · rw [List.mem_singleton] at z
      exact .inr (.inl z)
    · obtain ⟨t, ht, rfl⟩ := List.mem_map.mp hx
      exact .inl (((h.rows r hr).cells t ht).sg c z)
theorem mark_of {c : Nat} (h : SgOk c ∨ c = 9 ∨ c = 10) : MarkOk (⟨#[c]⟩ : Str) := by
  rcases h with h | h | h
  · exact .inr (.inr ⟨c, rfl, h⟩)
  · exact .inl (str_of (by rw [h, cl_oneG, cl_tabS]))
  · exact .inr (.inl (str_of (by rw [h, cl_oneG, cl_lineS])))
theorem sg_get {z : Str} {m : Nat} (h : m < z.length) : ∃ c, (cl z)[m]? = some c ∧ (sgS z ++ [("" : Str)]).getD m "" = (⟨#[c]⟩ : Str) := by
  have hl : m < (cl z).length := by rw [Array.length_toList]; exact h
  refine ⟨(cl z)[m], List.getElem?_eq_getElem hl, str_of ?_⟩
  rw [sg_getD, List.getElem?_eq_getElem hl]
  rfl
theorem start_all {z : Str} {n : Nat} (tz : TxtSg z) (lz : z.length ≤ 2100) (n4 : n ≤ 4) : AllP (startR z n) (List.range z.length) z.length ∧ txt (startR z n) = z := by
  have ls : (sgS z ++ [("" : Str)]).length = z.length + 1 := by rw [List.length_append, sgS_len]; rfl
  have a : AllP (startR z n) (List.range z.length) z.length := by
    refine ⟨⟨by rw [← List.range_succ]; exact List.nodup_range, fun m hm => ?_, fun m hm => ?_, ?_, fun x hx => ?_, (fun d hd => nomatch hd), ?_, ?_, by show 0 ≤ 1000; decide⟩, ?_, ?_, (fun d hd => nomatch hd), fun x hx => ?_, fun l hl => ?_, ?_, ?_⟩
    · show m < (sgS z ++ [("" : Str)]).length
      rw [← List.range_succ, List.mem_range] at hm
      rw [ls]
      exact hm
    · obtain ⟨c, h1, h2⟩ := sg_get (List.mem_range.mp hm)
      show MarkOk ((sgS z ++ [("" : Str)]).getD m "")
      rw [h2]
      exact mark_of (tz c (List.mem_of_getElem? h1))
    · show (sgS z ++ [("" : Str)]).getD z.length "" = ""
      refine str_of ?_
      rw [sg_getD, List.getElem?_eq_none (by rw [Array.length_toList]; exact Nat.le_refl _)]
      decide +kernel
    · rcases List.mem_append.mp hx with q | q
      · unfold sgS at q
        obtain ⟨c, _, rfl⟩ := List.mem_map.mp q
        show 1 ≤ 1
        decide
      · rw [List.mem_singleton] at q
        rw [q]
        decide +kernel
    · show (List.range z.length).length + 1 ≤ (sgS z ++ [("" : Str)]).length
      rw [ls, List.length_range]
      exact Nat.le_refl _
    · show (sgS z ++ [("" : Str)]).length ≤ 4000
      rw [ls]
      omega
    · show List.range (z.length + 1) = _
      rw [List.range_succ]
    · show List.replicate (z.length + 1) true = List.replicate (sgS z ++ [("" : Str)]).length true
      rw [ls]
    · have : x = 0 := List.eq_of_mem_replicate (show x ∈ List.replicate n 0 from hx)
      rw [this, ← List.range_succ]
      exact List.mem_range.mpr (Nat.succ_pos _)
    · exact List.eq_of_mem_replicate (show l ∈ List.replicate n [] from hl)
    · show (List.replicate n 0).length = (List.replicate n ([] : List Nat)).length
      rw [List.length_replicate, List.length_replicate]
    · show (List.replicate n 0).length ≤ 4
      rw [List.length_replicate]
      exact n4
  refine ⟨a, str_of ?_⟩
  rw [a.cl]
  have := flat_range (cl z) z.length 0
  rw [List.drop_zero, List.take_of_length_le (by rw [Array.length_toList]; exact Nat.le_refl _)] at this
  refine Eq.trans ?_ this
  unfold clM
  rw [List.range_eq_range']
  exact congrArg List.flatten (List.map_congr_left fun m _ => sg_getD)
end TG

namespace TGK
open TG
open PySem PySem.Spec PyProof.Rows L2 Gx EnT
/-! ### where no room is left -/
section
variable {rows : List (List Str)} {n c k : Nat} {s : Str}
theorem done_no {d : Deed} {m m2 : Nat} {new : List (List Str)} (hc : cutD rows d = some (m, m2, new)) (h : fitsR ((rows.length : Nat) - (m2 : Nat) + (new.length : Nat)) new = false) : doneR rows d = none := by
  unfold doneR
  rw [hc, Option.bind_some, if_neg (by rw [h]; exact Bool.false_ne_true)]
theorem fits_no {m : Int} {r : List Str} (h : 6 < r.length ∨ ∃ z ∈ r, 10 < z.length) : fitsR m [r] = false := by
  unfold fitsR
  rw [List.all_cons, List.all_nil, Bool.and_true]
  have : fitR r = false := by
    unfold fitR
    rcases h with h | ⟨z, hz, h⟩
    · rw [decide_eq_false (by omega), Bool.false_and]
    · have : (r.all fun z => decide (z.length ≤ 10)) = false := by
        rw [Bool.eq_false_iff]
        intro q
        have := of_decide_eq_true (List.all_eq_true.mp q z hz)
        omega
      rw [this, Bool.and_false]
  rw [this, Bool.and_false]
theorem full_sign (pl : PlOk rows n c k) (h : ((rowN rows n).getD c nilS).length = 10) (h1 : s ≠ tabS) (h2 : s ≠ lineS) (h3 : s.length = 1) : doneR rows (pressD (n, c, k) s) = none := by
  have ep : pressD (n, c, k) s = .strike n c k s := if_neg h2
  have e := cells_sign (r := rowN rows n) (c := c) (k := k) h1
  have ec : cutD rows (.strike n c k s) = some (n, 1, [(rowN rows n).take c ++ [zT ((rowN rows n).getD c nilS) k ++ s ++ zD ((rowN rows n).getD c nilS) k] ++ (rowN rows n).drop (c + 1)]) := by
    unfold cellsR at e
    injection e with e
    show some (n, 1, [if s = tabS then halvA (rowN rows n) c k ++ halvB (rowN rows n) c k else joinR (joinR (halvA (rowN rows n) c k) [s]) (halvB (rowN rows n) c k)]) = _
    rw [e]
  rw [ep]
  have hk : k ≤ ((rowN rows n).getD c nilS).length := pl.k_
  refine done_no ec (fits_no (.inr ⟨_, List.mem_append_left _ (List.mem_append_right _ (List.mem_singleton.mpr rfl)), ?_⟩))
  rw [len_zz, len_zz, len_clz (zT _ _), len_clz (zD _ _), cl_zT, cl_zD, List.length_take, List.length_drop, ← len_clz]
  omega
theorem full_tab (pl : PlOk rows n c k) (h : (rowN rows n).length = 6) : doneR rows (pressD (n, c, k) tabS) = none := by
  have ep : pressD (n, c, k) tabS = .strike n c k tabS := if_neg (by decide +kernel)
  have e := cells_tab (rowN rows n) c k
  have ec : cutD rows (.strike n c k tabS) = some (n, 1, [(rowN rows n).take c ++ [zT ((rowN rows n).getD c nilS) k, zD ((rowN rows n).getD c nilS) k] ++ (rowN rows n).drop (c + 1)]) := by
    unfold cellsR at e
    injection e with e
    show some (n, 1, [if tabS = tabS then halvA (rowN rows n) c k ++ halvB (rowN rows n) c k else joinR (joinR (halvA (rowN rows n) c k) [tabS]) (halvB (rowN rows n) c k)]) = _
    rw [e]
  rw [ep]
  have hc : c < (rowN rows n).length := pl.c_
  refine done_no ec (fits_no (.inl ?_))
  rw [List.length_append, List.length_append, List.length_take, List.length_drop]
  show 6 < min c _ + 2 + _
  omega
theorem full_line (h : rows.length = 30) : doneR rows (pressD (n, c, k) lineS) = none := by
  have ep : pressD (n, c, k) lineS = .part n c k := if_pos rfl
  rw [ep]
  refine done_no (m := n) (m2 := 1) (new := [halvA (rowN rows n) c k, halvB (rowN rows n) c k]) rfl ?_
  unfold fitsR
  rw [decide_eq_false (by rw [h]; show ¬ (1 ≤ ((30 : Nat) : Int) - ((1 : Nat) : Int) + ((2 : Nat) : Int) ∧ ((30 : Nat) : Int) - ((1 : Nat) : Int) + ((2 : Nat) : Int) ≤ 30); omega), Bool.false_and]
theorem full_cell (pl : PlOk rows n (c + 1) 0) (h : 10 < ((rowN rows n).getD c nilS).length + ((rowN rows n).getD (c + 1) nilS).length) : doneR rows (rubD (n, c + 1, 0) (n, c, ((rowN rows n).getD c nilS).length)) = none := by
  have er : rubD (n, c + 1, 0) (n, c, ((rowN rows n).getD c nilS).length) = .erase n c ((rowN rows n).getD c nilS).length := if_neg (Nat.lt_irrefl n)
  have ec := cut_erase (cells_join (r := rowN rows n) (c := c) rfl pl.c_)
  rw [er]
  refine done_no ec (fits_no (.inr ⟨_, List.mem_append_left _ (List.mem_append_right _ (List.mem_singleton.mpr rfl)), ?_⟩))
  rw [len_zz]
  exact h
theorem full_row (h1 : n + 1 < rows.length) (p0 : 1 ≤ (rowN rows n).length) (p1 : 1 ≤ (rowN rows (n + 1)).length) {q : Nat × Nat} (h : 7 < (rowN rows (n + 1)).length + (rowN rows n).length ∨ 10 < ((rowN rows n).getLast?.getD nilS).length + ((rowN rows (n + 1)).headD nilS).length) : doneR rows (rubD (n + 1, 0, 0) (n, q.1, q.2)) = none := by
  have er : rubD (n + 1, 0, 0) (n, q.1, q.2) = .unite n := if_pos (Nat.lt_succ_self n)
  have ec : cutD rows (.unite n) = some (n, 2, [joinR (rowN rows n) (rowN rows (n + 1))]) := if_pos h1
  rw [er]
  refine done_no ec (fits_no ?_)
  rcases h with h | h
  · left
    unfold joinR
    rw [List.length_append, List.length_cons, List.length_dropLast, List.length_tail]
    omega
  · right
    refine ⟨(rowN rows n).getLast?.getD nilS ++ (rowN rows (n + 1)).headD nilS, by unfold joinR; simp, ?_⟩
    rw [len_zz]
    exact h
end
end TGK
namespace TG
open PySem PySem.Spec PyProof.Rows L2 NdefX GenW Gx Lv Dl
section
variable {S : TSt} {O : List Nat} {n0 h : Nat} {s : Str}
theorem AllP.mem (t : AllP S O n0) (hh : h < S.spots.length) : atR S h ∈ TGK.pageSp (rowsT (txt S)) := by
  have le := (t.spot hh).2
  rw [t.at_ hh]
  exact List.mem_of_getElem? (page_get (by rw [t.len]; exact le))
theorem AllP.no_press (t : AllP S O n0) (hh : h < S.spots.length) (hs : MarkOk s) (l1 : S.signs.length ≤ 3900) (l2 : S.deeds.length ≤ 900) (hO : PgOk (rowsT (txt S))) (hd : TGK.doneR (rowsT (txt S)) (TGK.pressD (atR S h) s) = none) : ¬ PgOk (pageR (S.signs ++ [s]) (ordP S h) (deedP S h s)) := fun hp => by
  rw [t.pgP hh hs l1 l2] at hp
  obtain ⟨x, hx⟩ := hs.one
  have hy := t.clT (h := h) hs l1 l2
  rw [hx] at hy
  have ty : TxtSg (insT S O n0 h s) := fun c hc => by
    have := (t.more (h := h) (plc S O n0 h) hs true l1 l2).tx
    have e : hM (ins O (plc S O n0 h) S.signs.length) (S.deeds ++ [((h, s, S.signs.length, true) : Deed)]) = ins O (plc S O n0 h) S.signs.length := filt_all fun m _ => t.dP hs m
    rw [e] at this
    exact this c hc
  have d := (press_done (i := plc S O n0 h) hO ty hx (by rw [hy]; simp)).1 hp
  rw [← t.at_ hh, hd] at d
  cases d
theorem AllP.no_rub (t : AllP S O n0) (hh : h < S.spots.length) (l2 : S.deeds.length ≤ 900) (hO : PgOk (rowsT (txt S))) {q : Nat × Nat × Nat} (hb : TGK.besideR (rowsT (txt S)) (atR S h) (-1) = some q) (hd : TGK.doneR (rowsT (txt S)) (TGK.rubD (atR S h) q) = none) :
    ∃ m, nearR S h (-1) = some m ∧ ¬ PgOk (pageR S.signs S.order (S.deeds ++ [((h, ("" : Str), m, true) : Deed)])) := by
  have le := (t.spot hh).2
  have li : plc S O n0 h ≤ (TG.cl (txt S)).length := by rw [t.len]; exact le
  have b := beside_fin (z := txt S) (i := plc S O n0 h) li (-1)
  rw [← t.at_ hh, hb] at b
  split at b
  · rename_i c
    have hi : ∃ m, nearR S h (-1) = some m := by
      rw [t.near, if_pos ⟨c.1, by rw [← t.len]; exact c.2⟩]
      exact ⟨_, List.getElem?_eq_getElem (by rw [List.length_append]; show _ < O.length + 1; omega)⟩
    obtain ⟨m, hm⟩ := hi
    refine ⟨m, hm, fun hp => ?_⟩
    obtain ⟨i, x, y, e1, _, e2, ty, hy, hx⟩ := t.rub hh l2 hm
    rw [e2] at hp
    have lt : i < (TG.cl (txt S)).length := (List.getElem?_eq_some_iff.mp hx).1
    have ey : TG.cl (txt S) = (TG.cl y).take i ++ x :: (TG.cl y).drop i := by
      have l1 : ((TG.cl (txt S)).take i).length = i := by rw [List.length_take]; omega
      have a1 : (TG.cl y).take i = (TG.cl (txt S)).take i := by rw [hy, List.take_left' l1]
      have a2 : (TG.cl y).drop i = (TG.cl (txt S)).drop (i + 1) := by rw [hy, List.drop_left' l1]
      rw [a1, a2]
      conv => lhs; rw [← List.take_append_drop i (TG.cl (txt S))]
      rw [List.drop_eq_getElem_cons lt]
      rw [List.getElem?_eq_getElem lt] at hx
      injection hx with hx
      rw [hx]
    have liy : i ≤ (TG.cl y).length := by rw [hy, List.length_append, List.length_take, List.length_drop]; omega
    have d := (rub_done (s := ⟨#[x]⟩) hO ty liy (cl_oneG x) ey).1 hp
    have ei : (((plc S O n0 h : Nat) : Int) + (-1)).toNat = i := by omega
    rw [ei] at b
    injection b with b
    rw [← b, ← e1, ← t.at_ hh, hd] at d
    cases d
  · cases b
end
end TG

namespace TG
open PySem PySem.Spec PyProof.Rows L2 NdefX GenW Gx Lv Dl
abbrev ApartT (cs : List (Addr × Addr)) (p : Addr) : Prop := ∀ q ∈ cs, q.2 ≠ p
/-! ### what stays in the eyes of who holds pages, tuples and own lists -/
/-- tuples stay, and lists of some places -/
structure Kp (Z : Addr → Prop) (H H' : Hp) : Prop where
  ls : ∀ c us, Z c → H c = some (.lst us) → H' c = some (.lst us)
  tp : ∀ c us, H c = some (.tup us) → H' c = some (.tup us)
theorem Kp.tr {Z : Addr → Prop} {H H1 H' : Hp} (x : Kp Z H H1) (y : Kp Z H1 H') : Kp Z H H' := ⟨fun c us z h => y.ls c us z (x.ls c us z h), fun c us h => y.tp c us (x.tp c us h)⟩
theorem Kp.ext {Z : Addr → Prop} {H H' : Hp} (x : LamX.ExtN H H') : Kp Z H H' := ⟨fun c us _ h => x _ _ h fun ps z => (nomatch z), fun c us h => x _ _ h fun ps z => (nomatch z)⟩
theorem Kp.km {Z A : Addr → Prop} {H H' : Hp} (x : KM A H H') (m : Mob H A) (n : ∀ c, Z c → ¬ A c) : Kp Z H H' := ⟨fun c us z h => x _ _ h (fun ps z => (nomatch z)) (n c z), fun c us h => tup_km x m h⟩
/-- data that stands while these places stand -/
def DpZ (K : PySem.W.Frag) (Z : Addr → Prop) (H : Hp) (v : V) (d : PyData) : Prop := ∀ H', Kp Z H H' → Dp K H' v d
theorem DpZ.kp {K : PySem.W.Frag} {Z : Addr → Prop} {H H' : Hp} {v : V} {d : PyData} (h : DpZ K Z H v d) (x : Kp Z H H') : DpZ K Z H' v d := fun H2 y => h H2 (x.tr y)
theorem Kp.refl {Z : Addr → Prop} {H : Hp} : Kp Z H H := ⟨fun _ _ _ h => h, fun _ _ h => h⟩
theorem DpZ.dp {K : PySem.W.Frag} {Z : Addr → Prop} {H : Hp} {v : V} {d : PyData} (h : DpZ K Z H v d) : Dp K H v d := h H Kp.refl
/-- what stands in place of lambdas made -/
structure Lm (p : Addr) (H H1 : Hp) : Prop where
  keep : ∀ b o, H b = some o → b ≠ p → H1 b = some o
  old : ∀ b, H1 b = none → H b = none
theorem tab_ne {p : Addr} {q : Str} {H : Hp} (t : LamX.TabS H p q) {c : Addr} {o : HO} (h : H c = some o) (n : ∀ ps, o ≠ .tbl ps) : c ≠ p := fun e => by
  obtain ⟨ps, h1, _⟩ := t
  rw [e, h1] at h
  cases h
  exact n _ rfl
theorem Lm.ext {p : Addr} {q : Str} {H H1 : Hp} (l : Lm p H H1) (t : LamX.TabS H p q) : LamX.ExtN H H1 := fun c o h n => l.keep c o h (tab_ne t h n)
theorem Lm.tabs {cs : List (Addr × Addr)} {p : Addr} {H H1 : Hp} (l : Lm p H H1) (ne : ∀ r ∈ cs, r.2 ≠ p) (T : Tabs cs H) : Tabs cs H1 := fun r hr => by
  obtain ⟨ps, h1, h2⟩ := T r hr
  exact ⟨ps, l.keep _ _ h1 (ne r hr), h2⟩
theorem tabS_kn {cs : List (Addr × Addr)} {p : Addr} {q : Str} {H H' : Hp} {A : Addr → Prop} (x : KN cs A H H') (m : Mob H A) (ne : ∀ r ∈ cs, r.2 ≠ p) (t : LamX.TabS H p q) : LamX.TabS H' p q := by
  have na : ∀ {c : Addr} {o : HO}, H c = some o → (∀ us, o ≠ .lst us) → (∀ C dx fs, o ≠ .ins C dx fs) → ¬ A c := fun h n1 n2 z => by
    rcases m _ z with ⟨us, e⟩ | ⟨C, dx, fs, e⟩ <;> rw [e] at h <;> cases h
    · exact n1 _ rfl
    · exact n2 _ _ _ rfl
  obtain ⟨ps, h1, h2, h3⟩ := t
  refine ⟨ps, x _ _ h1 (.inr ne) (na h1 (fun us z => by cases z) fun C dx fs z => by cases z), h2, fun pos cv hc => ?_⟩
  obtain ⟨c, e1, e2⟩ := h3 pos cv hc
  exact ⟨c, e1, x _ _ e2 (.inl fun ps => LamX.codeO_ne ps) (na e2 (fun us z => by unfold LamX.CodeO at z; cases z) fun C dx fs z => by unfold LamX.CodeO at z; cases z)⟩
theorem tabS_lm {p p2 : Addr} {q : Str} {H H1 : Hp} (l : Lm p H H1) (n : p2 ≠ p) (t1 : LamX.TabS H p q) {q2 : Str} (t : LamX.TabS H p2 q2) : LamX.TabS H1 p2 q2 := by
  obtain ⟨ps, h1, h2, h3⟩ := t
  refine ⟨ps, l.keep _ _ h1 n, h2, fun pos cv hc => ?_⟩
  obtain ⟨c, e1, e2⟩ := h3 pos cv hc
  exact ⟨c, e1, l.keep _ _ e2 (tab_ne t1 e2 fun ps => LamX.codeO_ne ps)⟩
abbrev q1S : Str := ("_law_too_much" : Str) ++ ".<locals>." ++ "<lambda>"
abbrev q2S : Str := ("law" : Str) ++ ".<locals>." ++ "<lambda>"
/-- all that stands in the law, with a table -/
structure SitT (K : PySem.W.Frag) (cs : List (Addr × Addr)) (B p1 p2 b l st tb : Addr) (gap least : Int) (a : TA) (S : TSt) (H : Hp) : Prop where
  box : BoxAt H b l
  tab : Tabs cs H
  l1 : LamX.TabS H p1 q1S
  l2 : LamX.TabS H p2 q2S
  sty : StyleAt K H st gap least
  tt : TabD B H tb a S
  est : a.st = st
  d1 : ∀ c, ownT tb a c → ¬ (c = b ∨ c = l)
section
variable {K : PySem.W.Frag} {cs : List (Addr × Addr)} {B p1 p2 b l st tb : Addr} {gap least : Int} {a a' : TA} {S S' : TSt} {H H' : Hp} {Z : Addr → Prop}
theorem SitT.gw (o : SitT K cs B p1 p2 b l st tb gap least a S H) (x : LamX.ExtN H H') (t : Tabs cs H') (t1 : LamX.TabS H' p1 q1S) (t2 : LamX.TabS H' p2 q2S) : SitT K cs B p1 p2 b l st tb gap least a S H' :=
  ⟨box_ext o.box x, t, t1, t2, ⟨by
    rcases o.sty.tup with (h | ⟨u, h⟩) | h
    · exact .inl (.inl (x _ _ h fun ps z => by cases z))
    · exact .inl (.inr ⟨u, x _ _ h fun ps z => by cases z⟩)
    · exact .inr h, o.sty.g0, o.sty.g1, o.sty.l0, o.sty.l1⟩, o.tt.gw x, o.est, o.d1⟩
theorem kn_ex (x : Ex cs H H') {A : Addr → Prop} : KN cs A H H' := fun c u h n _ => x.any h n
theorem SitT.ex (o : SitT K cs B p1 p2 b l st tb gap least a S H) (n1 : ApartT cs p1) (n2 : ApartT cs p2) (x : Ex cs H H') : SitT K cs B p1 p2 b l st tb gap least a S H' := by
  have mF : Mob H (fun _ => False) := fun c z => z.elim
  exact o.gw x.ext x.tab (tabS_kn (kn_ex x) mF n1 o.l1) (tabS_kn (kn_ex x) mF n2 o.l2)
theorem SitT.lam1 (o : SitT K cs B p1 p2 b l st tb gap least a S H) (n1 : ApartT cs p1) (n : p2 ≠ p1) (m : Lm p1 H H') (t : LamX.TabS H' p1 q1S) : SitT K cs B p1 p2 b l st tb gap least a S H' := o.gw (m.ext o.l1) (m.tabs n1 o.tab) t (tabS_lm m n o.l1 o.l2)
theorem SitT.lam2 (o : SitT K cs B p1 p2 b l st tb gap least a S H) (n2 : ApartT cs p2) (n : p2 ≠ p1) (m : Lm p2 H H') (t : LamX.TabS H' p2 q2S) : SitT K cs B p1 p2 b l st tb gap least a S H' := o.gw (m.ext o.l2) (m.tabs n2 o.tab) (tabS_lm m n.symm o.l2 o.l1) t
/-- numbers are drawn -/
theorem SitT.draw (o : SitT K cs B p1 p2 b l st tb gap least a S H) (n1 : ApartT cs p1) (n2 : ApartT cs p2) (x : KB b l H H') (hB : BoxAt H' b l) : SitT K cs B p1 p2 b l st tb gap least a S H' ∧ ((∀ c, Z c → ¬ (c = b ∨ c = l)) → Kp Z H H') := by
  have y : KN cs (fun c => c = b ∨ c = l) H H' := fun c o h _ n => x c o h (fun z => n (.inl z)) fun z => n (.inr z)
  have m : Mob H (fun c => c = b ∨ c = l) := by
    obtain ⟨ns, s1, e1, e2, _⟩ := id o.box
    exact fun c z => .inl (z.elim (fun e => e ▸ ⟨_, e1⟩) fun e => e ▸ ⟨_, e2⟩)
  exact ⟨⟨hB, tabs_kb o.tab o.box x, tabS_kn y m n1 o.l1, tabS_kn y m n2 o.l2, ⟨sqT_km y.w m o.sty.tup, o.sty.g0, o.sty.g1, o.sty.l0, o.sty.l1⟩, o.tt.km y.w m (fun c hc z => o.d1 c hc z), o.est, o.d1⟩, fun n => Kp.km y.w m n⟩
/-- the table does something -/
theorem SitT.table (o : SitT K cs B p1 p2 b l st tb gap least a S H) (n1 : ApartT cs p1) (n2 : ApartT cs p2) (es : a'.st = a.st) (k : KN cs (ownT tb a) H H') (ow : ∀ c, ownT tb a' c → ownT tb a c ∨ H c = none) (t : Tabs cs H') (td : TabD B H' tb a' S') :
    SitT K cs B p1 p2 b l st tb gap least a' S' H' ∧ ((∀ c, Z c → ¬ ownT tb a c) → Kp Z H H') := by
  have m := o.tt.mob
  obtain ⟨ns, s1, e1, e2, e3⟩ := o.box
  refine ⟨⟨⟨ns, s1, k.w _ _ e1 (fun ps z => (nomatch z)) fun z => o.d1 _ z (.inl rfl), k.w _ _ e2 (fun ps z => (nomatch z)) fun z => o.d1 _ z (.inr rfl), e3⟩, t, tabS_kn k m n1 o.l1, tabS_kn k m n2 o.l2, ⟨sqT_km k.w m o.sty.tup, o.sty.g0, o.sty.g1, o.sty.l0, o.sty.l1⟩, td, es.trans o.est, fun c hc => ?_⟩, fun n => Kp.km k.w m n⟩
  rcases ow c hc with h | h
  · exact o.d1 c h
  · rintro (e | e)
    · rw [e, e1] at h; cases h
    · rw [e, e2] at h; cases h
end
/-! ### a page as data that stays -/
theorem dpz_page {K : PySem.W.Frag} {Z : Addr → Prop} {H : Hp} {r : Addr} {ps : List Addr} {rows : List (List Str)} (hr : H r = some (.lst (ps.map V.ref))) (hz : Z r) (hp : RowsAt ps rows H) : DpZ K Z H (.ref r) (.list (rowsD rows)) := fun H' x =>
  .lst (SqL.of (x.ls _ _ hz hr)) (dp_rows hp.len fun i q z h1 h2 => SqT.of (x.tp _ _ (hp.row i q z h1 h2)))
theorem dpz_told {K : PySem.W.Frag} {Z : Addr → Prop} {H : Hp} {r : Addr} {es : List Addr} {f : Nat → List Int} {n : Nat} (t : ToldAt H r es f n) (hz : Z r) (he : ∀ e ∈ es, Z e) : DpZ K Z H (.ref r) (toldD f n) := fun H' x =>
  dp_told ⟨x.ls _ _ hz t.lst, t.len, t.nd, fun i e h => x.ls _ _ (he e (List.mem_of_getElem? h)) (t.at_ i e h)⟩
def deedD (d : Deed) : PyData := .tuple [.int (d.1 : Nat), .str d.2.1, .bool d.2.2.2]
def placeD (p : Nat × Nat × Nat) : PyData := .tuple [.int (p.1 : Nat), .int (p.2.1 : Nat), .int (p.2.2 : Nat)]
theorem dpz_deeds {K : PySem.W.Frag} {Z : Addr → Prop} {H : Hp} {D : Addr} {ds : List Deed} {ts : List Addr} (h1 : H D = some (.lst (ts.map V.ref))) (h2 : ts.length = (ds.map toldV).length) (h3 : ∀ (j : Nat) (t : Addr) (v : List V), ts[j]? = some t → (ds.map toldV)[j]? = some v → H t = some (.tup v)) (hz : Z D) : DpZ K Z H (.ref D) (.list (ds.map deedD)) := fun H' x => by
  refine .lst (SqL.of (x.ls _ _ hz h1)) (dpAll_of (by rw [List.length_map, List.length_map, h2, List.length_map]) fun i v d e1 e2 => ?_)
  obtain ⟨t, ht, rfl⟩ := get_map e1
  obtain ⟨q, hq, rfl⟩ := get_map e2
  have := h3 i t (toldV q) ht (by rw [List.getElem?_map, hq]; rfl)
  exact .tup (SqT.of (x.tp _ _ this)) (.cons (.int _) (.cons (.str _) (.cons (.bl _) .nil)))
theorem dpz_places {K : PySem.W.Frag} {Z : Addr → Prop} {H : Hp} {D : Addr} {ts : List Addr} {ps : List (Nat × Nat × Nat)} (hD : H D = some (.lst (ts.map V.ref))) (hz : Z D) (hl : ts.length = ps.length) (ht : ∀ (i : Nat) (t : Addr) (p : Nat × Nat × Nat), ts[i]? = some t → ps[i]? = some p → H t = some (.tup [.int (p.1 : Nat), .int (p.2.1 : Nat), .int (p.2.2 : Nat)])) : DpZ K Z H (.ref D) (.list (ps.map placeD)) := fun H' x => by
  refine .lst (SqL.of (x.ls _ _ hz hD)) (dpAll_of (by rw [List.length_map, List.length_map, hl]) fun i v d e1 e2 => ?_)
  obtain ⟨t, h1, rfl⟩ := get_map e1
  obtain ⟨q, hq, rfl⟩ := get_map e2
  exact .tup (SqT.of (x.tp _ _ (ht i t q h1 hq))) (.cons (.int _) (.cons (.int _) (.cons (.int _) .nil)))
/-- all that is told of a table -/
def shownD (S : TSt) (gap least : Int) (n : Nat) : PyData := .list [.list (rowsD (rowsT (txt S))), toldD (begsR (rowsT (txt S)) gap least) (rowsT (txt S)).length, .list (S.deeds.map deedD), .list (((List.range n).map fun h => atR S h).map placeD)]
end TG

namespace TG
open PySem PySem.Spec PyProof.Rows L2 NdefX GenW Gx Lv Dl
theorem rowsAt_rep {K : PySem.W.Frag} {H : Hp} {as : List Addr} {rows : List (List Str)} (h : TGK.RowsAt K H as rows) : ∀ n, TGK.RowsAt K H (List.replicate n as).flatten (List.replicate n rows).flatten
  | 0 => ⟨rfl, fun i q r e => by simp at e⟩
  | n + 1 => by
    rw [List.replicate_succ, List.replicate_succ, List.flatten_cons, List.flatten_cons]
    exact h.app (rowsAt_rep h n)
theorem rep_len {α : Type} (xs : List α) : ∀ n, (List.replicate n xs).flatten.length = n * xs.length
  | 0 => by simp
  | n + 1 => by rw [List.replicate_succ, List.flatten_cons, List.length_append, rep_len xs n, Nat.succ_mul, Nat.add_comm]
theorem pg_rep {rows : List (List Str)} (h : PgOk rows) : PgOk ((List.replicate 30 rows).flatten.take 30) := by
  have p := h.pos
  refine ⟨?_, ?_, fun r hr => ?_⟩
  · rw [List.length_take, rep_len]
    omega
  · rw [List.length_take]
    omega
  · have := List.mem_of_mem_take hr
    obtain ⟨l, hl, hr⟩ := List.mem_flatten.mp this
    rw [List.eq_of_mem_replicate hl] at hr
    exact h.rows r hr
/-! ### _law_shown -/
section
variable {P : Program} {w : World} {K : PySem.W.Frag} {mg : Str → Option Value} {base : Heap} {cs : List (Addr × Addr)} {B : Addr}
def spShownT (K : PySem.W.Frag) (cs : List (Addr × Addr)) (B : Addr) : Sp := fun vs H Q _ => ∃ (tb : Addr) (a : TA) (S : TSt) (O : List Nat) (n0 n : Nat) (gap least : Int), vs = [.ref tb, .int (n : Nat)] ∧ Tabs cs H ∧ TabD B H tb a S ∧ AllP S O n0 ∧ PgOk (rowsT (txt S)) ∧ StyleAt K H a.st gap least ∧ S.spots.length = n ∧
  ∀ (r r0 : Addr) (ps : List Addr) (ws : List V) (H' : Hp), Ex cs H H' → H r = none → H r0 = none → DpZ K (fun c => H c = none ∧ H' c ≠ none) H' (.ref r) (shownD S gap least n) → H' r = some (.lst (.ref r0 :: ws)) → H' r0 = some (.lst (ps.map V.ref)) → RowsAt ps (rowsT (txt S)) H' → Q (.ref r) H'
abbrev nmShownT : List Str := ["_law_table", "_law_hands", "_law_hand"]
theorem sc_lshown : FnScope nmShownT ["_law_table", "_law_hands"] (defScope s_lshown) := ⟨rfl, rfl, rfl, by decide +kernel, rfl, by decide +kernel, by decide +kernel⟩
theorem ok_lshown {f gp gb gt ga : Addr} {fd fdp fdb fdt fda : FuncData} (T : Txt mg) (X : TabC K B) (F : Fun K "_law_shown" "_law_shown" s_lshown f fd)
    (Mp : Meth K B "page" gp) (Gp : FnOk P w K mg base CX0 3 gp fdp ["self"] (spTPage cs B)) (bp : Binds K fdp ["self"] [])
    (Mb : Meth K B "begins" gb) (Gb : FnOk P w K mg base CX0 15 gb fdb ["self"] (spTBegins K cs B)) (bb : Binds K fdb ["self"] [])
    (Mt : Meth K B "told" gt) (Gt : FnOk P w K mg base CX0 1 gt fdt ["self"] (spTTold B)) (bt : Binds K fdt ["self"] [])
    (Ma : Meth K B "at" ga) (Ga : FnOk P w K mg base CX0 3 ga fda ["self", "hand"] (spTAt cs B)) (ba : Binds K fda ["self", "hand"] []) :
    FnOk P w K mg base CX0 16 f fd ["_law_table", "_law_hands"] (spShownT K cs B) := by
  refine F.ok sc_lshown (fun vs H Q E h => ?_) (fun cdv A outer s H vs Q E hr h => ?_)
  · obtain ⟨tb, a, S, O, n0, n, gap, least, rfl, _⟩ := h
    rfl
  · obtain ⟨tb, a, S, O, n0, n, gap, least, rfl, hT, hD, t, hP, hS, hn, k⟩ := h
    have nd := sc_lshown.nd
    have r1 : Room 1 _ := hr.mono (by decide)
    have r3 : Room 3 _ := hr.mono (by decide)
    have r15 : Room 15 _ := hr.mono (by decide)
    refine ⟨_, (pss_one (ps_ret (pe_lst (pa_cons (pe_meth0 (pv 0) X.cls Mp Gp r3 bp .nil pass0) (pa_cons (pe_meth0 (pv 0) X.cls Mb Gb r15 bb .nil pass0) (pa_cons (pe_meth0 (pv 0) X.cls Mt Gt r1 bt .nil pass0) (pa_cons (pe_lc (own := [("_law_hand", 2)]) (g := gName 2) (tt := tYes) rfl nd (pi_range1 (by rfl) T.range (pa_cons (pv 1) pa_nil)) (blkOk_by (own := [("_law_hand", 2)]) (N := nmShownT) (sc := defScope s_lshown) (by decide +kernel)) (fun _ _ _ _ _ => pg_name (i := 2) nd rfl (Or.inl rfl)) (fun _ _ _ _ _ => pts_nil) (fun _ _ _ _ _ => (pe_meth (pv 0) X.cls Ma Ga r3 ba .nil pass0 (pa_cons (pv 2) pa_nil)))) pa_nil))))))), ?_⟩
    have hO := t.tok
    have szl : (1000 : Nat) < sizeLine := by decide
    have n4 : n ≤ 4 := by rw [← hn]; exact t.h4
    refine ⟨_, rfl, tb, a.dx, _, rfl, hD.ob, rfl, tb, a, S, rfl, hT, hD, hO, fun r0 ps H1 x1 nr0 hr1 hp1 => ?_⟩
    have hD1 := hD.gw x1.ext
    refine ⟨_, rfl, tb, a.dx, _, rfl, hD1.ob, rfl, tb, a, S, gap, least, rfl, x1.tab, hD1, hO, ⟨x1.sqT hS.tup, hS.g0, hS.g1, hS.l0, hS.l1⟩, hP, fun r1 es H2 x2 nr1 nes tA => ?_⟩
    have hD2 := hD1.gw x2.ext
    refine ⟨_, rfl, tb, a.dx, _, rfl, hD2.ob, rfl, tb, a, S, rfl, hD2, hO, fun r2 H3 o3 => ?_⟩
    have x3 := same_ex o3.sm x2.tab
    have hD3 := hD2.gw x3.ext
    refine ⟨_, rfl, ((n : Nat) : Int), rfl, by omega, by omega, fun D nD => ?_⟩
    refine lc_range (n := ((n : Nat) : Int).toNat) (fun i H' => Ex cs H3 H' ∧ ∃ ts : List Addr, H' D = some (.lst (ts.map V.ref)) ∧ ts.length = i ∧ ∀ (j : Nat) (q : Addr), ts[j]? = some q → H' q = some (.tup [.int ((atR S j).1 : Nat), .int ((atR S j).2.1 : Nat), .int ((atR S j).2.2 : Nat)])) ⟨Ex.laid x3.tab nD, [], upd_same, rfl, fun j q e => by simp at e⟩ ?_ ?_
    · rintro i H4 hi ⟨x4, ts, h1, h2, h3⟩
      have hD4 := hD3.gw x4.ext
      have hi2 : i < S.spots.length := by omega
      refine ⟨rfl, _, rfl, tb, a.dx, _, rfl, hD4.ob, rfl, _, rfl, tb, i, a, S, by rw [Int.zero_add]; rfl, x4.tab, hD4, hO, hi2, fun q H5 x5 hq => ?_⟩
      have hD5 := x5.lst h1
      have nDq : ∀ {c : Addr} {xs : List V}, H5 c = some (.tup xs) → c ≠ D := fun h e => by rw [e, hD5] at h; cases h
      refine ⟨_, hD5, by rw [List.length_map, h2]; omega, ?_, ts ++ [q], by rw [upd_same, List.map_append]; rfl, by rw [List.length_append, h2]; rfl, fun j p e => ?_⟩
      · have x45 := x4.trans x5
        refine ⟨fun c o h n => by rw [upd_ne (ne_of_none h nD)]; exact x45.ext _ _ h n, tabs_lst x45.tab hD5, fun c h => ?_, fun c o h n => by rw [upd_ne (ne_of_none h nD)]; exact x45.oth _ _ h n⟩
        by_cases z : c = D
        · rw [z, upd_same] at h; cases h
        · rw [upd_ne z] at h; exact x45.old _ h
      · by_cases hj : j < ts.length
        · rw [List.getElem?_append_left hj] at e
          have := x5.tup (h3 j p e)
          rw [upd_ne (nDq this)]
          exact this
        · rw [List.getElem?_append_right (by omega)] at e
          cases z : j - ts.length with
          | zero =>
            rw [z] at e
            have ep : p = q := by
              simp at e
              exact e.symm
            have ej : j = i := by omega
            rw [ep, ej, upd_ne (nDq hq)]
            exact hq
          | succ m => rw [z] at e; simp at e
    · rintro H4 ⟨x4, ts, h1, h2, h3⟩
      have x04 := ((x1.trans x2).trans x3).trans x4
      refine ⟨by show 4 ≤ sizeLine; decide, fun r nr => ?_⟩
      have x5 := Ex.laid (o := .lst [V.ref r0, V.ref r1, V.ref r2, V.ref D]) x4.tab nr
      have x05 := x04.trans x5
      have hr5 : upd H4 r (.lst [V.ref r0, V.ref r1, V.ref r2, V.ref D]) r = some (.lst [V.ref r0, V.ref r1, V.ref r2, V.ref D]) := upd_same
      generalize upd H4 r (.lst [V.ref r0, V.ref r1, V.ref r2, V.ref D]) = H5 at x5 x05 hr5 ⊢
      have x15 := ((x2.trans x3).trans x4).trans x5
      have x25 := (x3.trans x4).trans x5
      have x35 := x4.trans x5
      have hp5 : RowsAt ps (rowsT (txt S)) H5 := ⟨hp1.len, fun i q z e1 e2 => x15.tup (hp1.row i q z e1 e2)⟩
      have tA5 := tA.ext x25.ext
      have z0 : H r0 = none ∧ H5 r0 ≠ none := ⟨nr0, by rw [x15.lst hr1]; exact fun e => nomatch e⟩
      have z1 : H r1 = none ∧ H5 r1 ≠ none := ⟨x1.old _ nr1, by rw [tA5.lst]; exact fun e => nomatch e⟩
      have ze : ∀ e ∈ es, H e = none ∧ H5 e ≠ none := fun e he => ⟨x1.old _ (nes e he), by
        obtain ⟨i, hi⟩ := List.mem_iff_getElem?.mp he
        rw [tA5.at_ i e hi]
        exact fun e => nomatch e⟩
      have z2 : H r2 = none ∧ H5 r2 ≠ none := ⟨x1.old _ (x2.old _ o3.nD), by
        obtain ⟨t3, g1, _⟩ := o3.ts
        rw [x35.lst g1]
        exact fun e => nomatch e⟩
      have zD : H D = none ∧ H5 D ≠ none := ⟨x1.old _ (x2.old _ (x3.old _ nD)), by rw [x5.lst h1]; exact fun e => nomatch e⟩
      have zr : H r = none ∧ H5 r ≠ none := ⟨x04.old _ nr, by rw [hr5]; exact fun e => nomatch e⟩
      obtain ⟨t3, g1, g2, g3⟩ := o3.ts
      have hpl : ∀ (i : Nat) (q : Addr) (p : Nat × Nat × Nat), ts[i]? = some q → ((List.range n).map fun h => atR S h)[i]? = some p → H5 q = some (.tup [.int (p.1 : Nat), .int (p.2.1 : Nat), .int (p.2.2 : Nat)]) := fun i q p e1 e2 => by
        rw [List.getElem?_map] at e2
        cases e3 : (List.range n)[i]? with
        | none => rw [e3] at e2; cases e2
        | some j =>
          rw [e3] at e2
          have : i < n := by
            have := (List.getElem?_eq_some_iff.mp e3).1
            rwa [List.length_range] at this
          rw [List.getElem?_range this] at e3
          cases e3
          cases e2
          exact x5.tup (h3 i q e1)
      have dp : DpZ K (fun c => H c = none ∧ H5 c ≠ none) H5 (.ref r) (shownD S gap least n) := fun H' y =>
        .lst (SqL.of (y.ls _ _ zr hr5)) (.cons (dpz_page (x15.lst hr1) z0 hp5 H' y) (.cons (dpz_told tA5 z1 ze H' y) (.cons (dpz_deeds (x35.lst g1) g2 (fun j q v e1 e2 => x35.tup (g3 j q v e1 e2)) z2 H' y) (.cons (dpz_places (x5.lst h1) zD (by rw [h2, List.length_map, List.length_range]; exact Int.toNat_natCast n) hpl H' y) .nil))))
      exact k r r0 ps _ H5 x05 zr.1 z0.1 dp hr5 (x15.lst hr1) hp5
/-! ### _law_first -/
def spFirstL (K : PySem.W.Frag) : Sp := fun vs H Q _ => ∃ (b l : Addr) (i : Int), vs = [.ref b, .int i] ∧ BoxAt H b l ∧
  ∀ (p : Addr) (as : List Addr) (rows : List (List Str)) (H' : Hp), BoxAt H' b l → KB b l H H' → p ≠ b → p ≠ l → H' p = some (.lst (as.map V.ref)) → TGK.RowsAt K H' as rows → PgOk rows → Q (.ref p) H'
abbrev nmFirstL : List Str := ["_law_box", "_law_way", "_law_page_here"]
theorem sc_lfirst : FnScope nmFirstL ["_law_box", "_law_way"] (defScope s_first) := ⟨rfl, rfl, rfl, by decide +kernel, rfl, by decide +kernel, by decide +kernel⟩
theorem kb_put {b l q : Addr} {o : HO} {H H' : Hp} (x : KB b l H H') (n : H' q = none) : KB b l H (upd H' q o) := fun c u h h1 h2 => by
  have := x c u h h1 h2
  rw [upd_ne (ne_of_none this n)]
  exact this
theorem ten_row : RowOk [("abcdefghij" : Str)] := by
  refine ⟨by decide, by decide, fun z hz => ?_⟩
  rw [List.mem_singleton] at hz
  rw [hz]
  exact ⟨by decide +kernel, by decide +kernel⟩
theorem ok_lfirst {f g2 g3 : Addr} {fd fd2 fd3 : FuncData} (F : Fun K "_law_first" "_law_first" s_first f fd)
    (G2 : FnOk P w K mg base CX0 1 g2 fd2 ["_law_box", "_law_many"] spTake) (k2 : PySem.W.keepIn K (.ref g2) = true) (b2 : Binds K fd2 ["_law_box", "_law_many"] []) (m2 : mg "_law_take" = some (.ref g2))
    (G3 : FnOk P w K mg base CX0 5 g3 fd3 ["_law_box", "_law_most"] spPageD) (k3 : PySem.W.keepIn K (.ref g3) = true) (b3 : Binds K fd3 ["_law_box", "_law_most"] []) (m3 : mg "_law_page" = some (.ref g3)) :
    FnOk P w K mg base CX0 6 f fd ["_law_box", "_law_way"] (spFirstL K) := by
  refine F.ok sc_lfirst (fun vs H Q E h => ?_) (fun cdv A outer s H vs Q E hr h => ?_)
  · obtain ⟨b, l, i, rfl, _⟩ := h
    rfl
  · obtain ⟨b, l, i, rfl, hB, k⟩ := h
    have nd := sc_lfirst.nd
    have szl : (9000 : Nat) < sizeLine := by decide
    have r1 : Room 1 _ := hr.mono (by decide)
    have r5 : Room 5 _ := hr.mono (by decide)
    refine ⟨_, (pss_cons (ps_set (i := 2) nd rfl (.inl rfl) (pe_call G3 r5 (by rfl) m3 k3 b3 .nil pass0 (pa_cons (pv 0) (pa_cons (pe_ix ix_list (pe_lst (pa_cons pe_int (pa_cons pe_int (pa_cons pe_int pa_nil)))) (pe_call G2 r1 (by rfl) m2 k2 b2 .nil pass0 (pa_cons (pv 0) (pa_cons pe_int pa_nil))) (fun _ _ => rfl)) pa_nil))))
      (pss_cons (ps_if (pt_cmpR op_eq (pv 1) pe_int (nomark _)) (pss_one (ps_set (i := 2) nd rfl (.inl rfl) (pe_slice sl_list (pe_op op_rep (pv 2) pe_int) po_none (po_some pe_int)))) pss_nil)
      (pss_one (ps_ret (pe_ifExp (pt_cmpR op_eq (pv 1) pe_int (nomark _)) (pe_op op_rep (pe_lst (pa_cons (pe_tup (pa_cons pe_str pa_nil)) pa_nil)) (pe_op op_add pe_int (pe_call G2 r1 (by rfl) m2 k2 b2 .nil pass0 (pa_cons (pv 0) (pa_cons pe_int pa_nil))))) (pv 2)))))), ?_⟩
    refine ⟨_, rfl, by show 3 ≤ sizeLine; decide, fun p0 np0 => ⟨_, rfl, b, l, 3, rfl, box_new hB np0, by decide, by decide, fun z H2 z0 z1 hB2 x2 => ?_⟩⟩
    obtain ⟨nb0, nl0⟩ := new_ne hB np0
    have hp2 := x2 p0 _ upd_same nb0 nl0
    have x02 : KB b l H H2 := (kb_put KB.refl np0).trans x2
    obtain ⟨m, hm, em⟩ := pick (xs := [(2 : Int), 8, 30]) (i := z) z0 z1
    have hm2 : 1 ≤ m ∧ m ≤ 30 := by
      simp only [List.mem_cons, List.not_mem_nil, or_false] at hm
      omega
    refine ⟨p0, _, _, .int m, rfl, rfl, SqL.of hp2, atI_map (f := V.int) em, b, l, m, rfl, hB2, hm2.1, hm2.2, fun pg as rows H3 hB3 x3 np pb pl hp hal hrow hO => ?_⟩
    have P3 : TGK.RowsAt K H3 as rows := ⟨hal, fun i q r h1 h2 => SqT.of (hrow i q r h1 h2)⟩
    have x03 := x02.trans x3
    have l30 := hO.len
    refine ⟨_, rfl, rfl, ?_⟩
    by_cases e0 : i = 0
    · -- full
      refine ⟨true, dT (by rw [e0]), iteT ?_⟩
      refine ⟨_, rfl, pg, 30, _, rfl, rfl, hp, by decide, by decide, by rw [List.length_map, P3.len]; show rows.length * 30 ≤ sizeLine; omega, fun q1 nq1 => ⟨_, rfl, q1, _, rfl, SqL.of upd_same, fun q2 nq2 => ?_⟩⟩
      have s4 := same_new (o := .lst (List.replicate (30 : Int).toNat (as.map V.ref)).flatten) nq1
      have s5 := same_new (o := .lst (cutV (List.replicate (30 : Int).toNat (as.map V.ref)).flatten none (some (30 : Int)))) nq2
      have hB4 := box_new (o := .lst (List.replicate (30 : Int).toNat (as.map V.ref)).flatten) hB3 nq1
      obtain ⟨m1', m2'⟩ := new_ne hB4 nq2
      have e2 : cutV (List.replicate (30 : Int).toNat (as.map V.ref)).flatten none (some (30 : Int)) = (((List.replicate 30 as).flatten).take 30).map V.ref := by
        have e3 : cutV (List.replicate (30 : Int).toNat (as.map V.ref)).flatten none (some ((30 : Nat) : Int)) = _ := cut_toV
        rw [show (30 : Int) = ((30 : Nat) : Int) from rfl] at e3 ⊢
        rw [e3, List.map_take, List.map_flatten, List.map_replicate]
        rfl
      refine ⟨_, rfl, rfl, false, dF (fun e => by injection e with e; omega), iteF ⟨_, rfl, ?_⟩⟩
      exact k q2 _ _ _ (box_new hB4 nq2) (kb_put (kb_put x03 nq1) nq2) m1' m2' (by rw [upd_same, e2]) (((rowsAt_rep P3 30).take 30).gw (same_extN (fun c o h => s5 _ _ (s4 _ _ h)))) (pg_rep hO)
    · refine ⟨false, dF (fun e => e0 (by injection e)), iteF ?_⟩
      refine ⟨_, rfl, rfl, ?_⟩
      by_cases e1 : i = 1
      · refine ⟨true, dT (by rw [e1]), iteT ?_⟩
        refine ⟨by show 1 ≤ sizeLine; decide, fun q nq => ⟨by show 1 ≤ sizeLine; decide, fun q1 nq1 => ?_⟩⟩
        have hq : upd (upd H3 q (.tup [V.str "abcdefghij"])) q1 (.lst [V.ref q]) q = some (.tup [V.str "abcdefghij"]) := by
          rw [upd_ne (ne_of_none upd_same nq1), upd_same]
        have hq1 : upd (upd H3 q (.tup [V.str "abcdefghij"])) q1 (.lst [V.ref q]) q1 = some (.lst [V.ref q]) := upd_same
        have hB5 := box_new (o := .lst [V.ref q]) (box_new (o := .tup [V.str "abcdefghij"]) hB3 nq) nq1
        have x05 : KB b l H (upd (upd H3 q (.tup [V.str "abcdefghij"])) q1 (.lst [V.ref q])) := kb_put (kb_put x03 nq) nq1
        obtain ⟨a1, a2⟩ := new_ne (box_new (o := .tup [V.str "abcdefghij"]) hB3 nq) nq1
        generalize upd (upd H3 q (.tup [V.str "abcdefghij"])) q1 (.lst [V.ref q]) = H5 at hq hq1 hB5 x05 ⊢
        refine ⟨_, rfl, b, l, 11, rfl, hB5, by decide, by decide, fun t11 H6 t0 t1 hB6 x6 => ⟨_, _, rfl, rfl, ?_⟩⟩
        have hq1' := x6 _ _ hq1 a1 a2
        have hq' : H6 q = some (.tup [V.str "abcdefghij"]) := by
          obtain ⟨ns', st', e1', e2', _⟩ := id hB5
          exact x6 q _ hq (ne_of hq e1' (by intro z; cases z)) (ne_of hq e2' (by intro z; cases z))
        obtain ⟨n, hn⟩ : ∃ n : Nat, (20 + t11).toNat = n := ⟨_, rfl⟩
        refine ⟨q1, _, _, rfl, rfl, hq1', by omega, by omega, by rw [hn]; show 1 * n ≤ sizeLine; omega, fun p np9 => ?_⟩
        obtain ⟨c1, c2⟩ := new_ne hB6 np9
        rw [hn]
        have s9 := same_new (o := .lst (List.replicate n [V.ref q]).flatten) np9
        refine k p (List.replicate n [q]).flatten (List.replicate n [[("abcdefghij" : Str)]]).flatten _ (box_new hB6 np9) (kb_put (x05.trans x6) np9) c1 c2 (by rw [upd_same, List.map_flatten, List.map_replicate]; rfl) ((rowsAt_rep ⟨rfl, fun i q2 r h1 h2 => ?_⟩ n).gw (same_extN s9)) ⟨?_, ?_, fun r hr => ?_⟩
        · cases i with
          | zero => cases h1; cases h2; exact SqT.of hq'
          | succ j => simp at h1
        · rw [rep_len]; show 1 ≤ n * 1; omega
        · rw [rep_len]; show n * 1 ≤ 30; omega
        · obtain ⟨w, hw, hr⟩ := List.mem_flatten.mp hr
          rw [List.eq_of_mem_replicate hw, List.mem_singleton] at hr
          rw [hr]
          exact ten_row
      · refine ⟨false, dF (fun e => e1 (by injection e)), iteF ⟨_, rfl, ?_⟩⟩
        exact k pg as rows _ hB3 x03 pb pl hp P3 hO
end
end TG

namespace TG
open PySem PySem.Spec PyProof.Rows L2 NdefX GenW Gx Lv Dl
/-! ### _law_too_much -/
theorem cutS (G C : L2.St → Hp → Prop) {X : Prop} (f : (∀ σ H, C σ H → G σ H) → X) (g : ∀ σ H, C σ H → G σ H) : X := f g
def ifBl : Stmt → List Stmt
  | .If _ b _ _ => b
  | _ => []
def lamApp : Stmt → TGK.LamT
  | .Expr (.Call _ [e] _ _) _ => TGK.lamOf e
  | _ => TGK.lam00
abbrev frT : List Str := ["_law_table", "_law_hand"]
abbrev lw1 : TGK.LamT := lamApp (TGK.stAt (ifBl (TGK.stAt (defBody s_too_much) 2)) 0)
theorem sc_w1 : NScope frT [] frT lw1.2.2 := nscope_by (by decide +kernel)
theorem kl_1 : ∀ y ∈ lw1.2.2.names, y.2 = .free → (defScope s_too_much).names.lookup y.1 = some .cell := by decide +kernel
abbrev lw2 : TGK.LamT := lamApp (TGK.stAt (ifBl (TGK.stAt (defBody s_too_much) 3)) 0)
theorem sc_w2 : NScope ["_law_a", "_law_table", "_law_hand"] ["_law_a"] frT lw2.2.2 := nscope_by (by decide +kernel)
theorem key_w2 : lw2.2.2.names.lookup ("_law_a" : Str) = some .local := by decide +kernel
theorem kl_2 : ∀ y ∈ lw2.2.2.names, y.2 = .free → (defScope s_too_much).names.lookup y.1 = some .cell := by decide +kernel
abbrev lw3 : TGK.LamT := lamApp (TGK.stAt (ifBl (TGK.stAt (defBody s_too_much) 4)) 0)
theorem sc_w3 : NScope ["_law_b", "_law_table", "_law_hand"] ["_law_b"] frT lw3.2.2 := nscope_by (by decide +kernel)
theorem key_w3 : lw3.2.2.names.lookup ("_law_b" : Str) = some .local := by decide +kernel
theorem kl_3 : ∀ y ∈ lw3.2.2.names, y.2 = .free → (defScope s_too_much).names.lookup y.1 = some .cell := by decide +kernel
abbrev lw4 : TGK.LamT := lamApp (TGK.stAt (ifBl (TGK.stAt (defBody s_too_much) 6)) 0)
theorem sc_w4 : NScope ["_law_c", "_law_table", "_law_hand"] ["_law_c"] frT lw4.2.2 := nscope_by (by decide +kernel)
theorem key_w4 : lw4.2.2.names.lookup ("_law_c" : Str) = some .local := by decide +kernel
theorem kl_4 : ∀ y ∈ lw4.2.2.names, y.2 = .free → (defScope s_too_much).names.lookup y.1 = some .cell := by decide +kernel
abbrev lw5 : TGK.LamT := lamApp (TGK.stAt (ifBl (TGK.stAt (defBody s_too_much) 7)) 0)
theorem sc_w5 : NScope ["_law_d", "_law_table", "_law_hand"] ["_law_d"] frT lw5.2.2 := nscope_by (by decide +kernel)
theorem key_w5 : lw5.2.2.names.lookup ("_law_d" : Str) = some .local := by decide +kernel
theorem kl_5 : ∀ y ∈ lw5.2.2.names, y.2 = .free → (defScope s_too_much).names.lookup y.1 = some .cell := by decide +kernel
theorem kc_t : ∀ y ∈ frT, (defScope s_too_much).names.lookup y = some .cell := by decide +kernel
def rWP (B : Addr) (z : Str) (sp : Sp) : TGK.RW := fun ws H Q E => ∃ (tb dx : Addr) (fs : List (Str × V)) (h : Nat), ws = [some (.ref tb), some (.int (h : Nat))] ∧ H tb = some (.ins B dx fs) ∧ fs.lookup ("press" : Str) = none ∧ sp [.ref tb, .int (h : Nat), .str z] H Q E
def rWR (B : Addr) (sp : Sp) : TGK.RW := fun ws H Q E => ∃ (tb dx : Addr) (fs : List (Str × V)) (h : Nat), ws = [some (.ref tb), some (.int (h : Nat))] ∧ H tb = some (.ins B dx fs) ∧ fs.lookup ("rub" : Str) = none ∧ sp [.ref tb, .int (h : Nat)] H Q E
section
variable {P : Program} {w : World} {K : PySem.W.Frag} {mg : Str → Option Value} {base : Heap} {cs : List (Addr × Addr)} {B : Addr}
theorem lok_w1 {k : Nat} {q : Str} {c' f g : Addr} {fdg : FuncData} {lc : List (Str × Addr)} {sp : Sp} (X : Cls K B) (M : Meth K B "press" g) (G : FnOk P w K mg base (L2.CX P w) k g fdg ["self", "hand", "sign"] sp) (bd : Binds K fdg ["self", "hand", "sign"] []) :
    LamW P w K mg base (k + 1) f (HfL f ⟨"<lambda>", q, lw1.1, [], lw1.2.2, lc, c'⟩ lw1.2.1) (TGK.spLamR frT (rWP B "a" sp) ⟨"<lambda>", q, lw1.1, [], lw1.2.2, lc, c'⟩) := by
  refine lamw_l (lokx_of (N := frT) (fr := frT) sc_w1 (fun pm ctv => rfl) fun A outer s H Q E hr h => ?_)
  obtain ⟨_, ws, cl, hC, tb, dx, fs, h, rfl, hob, l1, hsp⟩ := h
  refine ⟨_, cl, _, hC, pe_methS (pv 0) X M G hr bd (fun σ => passAt (takes_of rfl rfl rfl rfl) σ) (pa_cons (pv 1) (pa_cons pe_str pa_nil)), ?_⟩
  exact ⟨_, rfl, tb, dx, fs, rfl, hob, l1, _, rfl, hsp⟩
theorem lok_w2 {k : Nat} {q : Str} {c' f g t : Addr} {fdg : FuncData} {lc : List (Str × Addr)} {v : V} {sp : Sp} (X : Cls K B) (M : Meth K B "press" g) (G : FnOk P w K mg base (L2.CX P w) k g fdg ["self", "hand", "sign"] sp) (bd : Binds K fdg ["self", "hand", "sign"] []) :
    LamW P w K mg base (k + 1) f (HfD f ⟨"<lambda>", q, lw2.1, [], lw2.2.2, lc, c'⟩ lw2.2.1 t v) (TGK.spLamR frT (rWP B "\t" sp) ⟨"<lambda>", q, lw2.1, [], lw2.2.2, lc, c'⟩) := by
  refine lamw_d (N := ["_law_a", "_law_table", "_law_hand"]) (fr := frT) (nm := "_law_a") sc_w2 rfl rfl rfl rfl rfl key_w2 fun A outer s H Q E hr h => ?_
  obtain ⟨_, ws, cl, hC, tb, dx, fs, h, rfl, hob, l1, hsp⟩ := h
  refine ⟨_, cl, _, hC, pe_methS (pv 1) X M G hr bd (fun σ => passAt (takes_of rfl rfl rfl rfl) σ) (pa_cons (pv 2) (pa_cons pe_str pa_nil)), ?_⟩
  exact ⟨_, rfl, tb, dx, fs, rfl, hob, l1, _, rfl, hsp⟩
theorem lok_w3 {k : Nat} {q : Str} {c' f g t : Addr} {fdg : FuncData} {lc : List (Str × Addr)} {v : V} {sp : Sp} (X : Cls K B) (M : Meth K B "press" g) (G : FnOk P w K mg base (L2.CX P w) k g fdg ["self", "hand", "sign"] sp) (bd : Binds K fdg ["self", "hand", "sign"] []) :
    LamW P w K mg base (k + 1) f (HfD f ⟨"<lambda>", q, lw3.1, [], lw3.2.2, lc, c'⟩ lw3.2.1 t v) (TGK.spLamR frT (rWP B "\n" sp) ⟨"<lambda>", q, lw3.1, [], lw3.2.2, lc, c'⟩) := by
  refine lamw_d (N := ["_law_b", "_law_table", "_law_hand"]) (fr := frT) (nm := "_law_b") sc_w3 rfl rfl rfl rfl rfl key_w3 fun A outer s H Q E hr h => ?_
  obtain ⟨_, ws, cl, hC, tb, dx, fs, h, rfl, hob, l1, hsp⟩ := h
  refine ⟨_, cl, _, hC, pe_methS (pv 1) X M G hr bd (fun σ => passAt (takes_of rfl rfl rfl rfl) σ) (pa_cons (pv 2) (pa_cons pe_str pa_nil)), ?_⟩
  exact ⟨_, rfl, tb, dx, fs, rfl, hob, l1, _, rfl, hsp⟩
theorem lok_w4 {k : Nat} {q : Str} {c' f g t : Addr} {fdg : FuncData} {lc : List (Str × Addr)} {v : V} {sp : Sp} (X : Cls K B) (M : Meth K B "rub" g) (G : FnOk P w K mg base (L2.CX P w) k g fdg ["self", "hand"] sp) (bd : Binds K fdg ["self", "hand"] []) :
    LamW P w K mg base (k + 1) f (HfD f ⟨"<lambda>", q, lw4.1, [], lw4.2.2, lc, c'⟩ lw4.2.1 t v) (TGK.spLamR frT (rWR B sp) ⟨"<lambda>", q, lw4.1, [], lw4.2.2, lc, c'⟩) := by
  refine lamw_d (N := ["_law_c", "_law_table", "_law_hand"]) (fr := frT) (nm := "_law_c") sc_w4 rfl rfl rfl rfl rfl key_w4 fun A outer s H Q E hr h => ?_
  obtain ⟨_, ws, cl, hC, tb, dx, fs, h, rfl, hob, l1, hsp⟩ := h
  refine ⟨_, cl, _, hC, pe_methS (pv 1) X M G hr bd (fun σ => passAt (takes_of rfl rfl rfl rfl) σ) (pa_cons (pv 2) pa_nil), ?_⟩
  exact ⟨_, rfl, tb, dx, fs, rfl, hob, l1, _, rfl, hsp⟩
theorem lok_w5 {k : Nat} {q : Str} {c' f g t : Addr} {fdg : FuncData} {lc : List (Str × Addr)} {v : V} {sp : Sp} (X : Cls K B) (M : Meth K B "rub" g) (G : FnOk P w K mg base (L2.CX P w) k g fdg ["self", "hand"] sp) (bd : Binds K fdg ["self", "hand"] []) :
    LamW P w K mg base (k + 1) f (HfD f ⟨"<lambda>", q, lw5.1, [], lw5.2.2, lc, c'⟩ lw5.2.1 t v) (TGK.spLamR frT (rWR B sp) ⟨"<lambda>", q, lw5.1, [], lw5.2.2, lc, c'⟩) := by
  refine lamw_d (N := ["_law_d", "_law_table", "_law_hand"]) (fr := frT) (nm := "_law_d") sc_w5 rfl rfl rfl rfl rfl key_w5 fun A outer s H Q E hr h => ?_
  obtain ⟨_, ws, cl, hC, tb, dx, fs, h, rfl, hob, l1, hsp⟩ := h
  refine ⟨_, cl, _, hC, pe_methS (pv 1) X M G hr bd (fun σ => passAt (takes_of rfl rfl rfl rfl) σ) (pa_cons (pv 2) pa_nil), ?_⟩
  exact ⟨_, rfl, tb, dx, fs, rfl, hob, l1, _, rfl, hsp⟩
end
theorem eqv_two (a b : Nat) : PyData.eqv (.tuple [.int (a : Nat), .int (b : Nat)]) (.tuple [.int 0, .int 0]) = decide (a = 0 ∧ b = 0) := by
  simp only [PyData.eqv, PyData.eqvAll]
  by_cases h : a = 0 ∧ b = 0
  · rw [decide_eq_true h, h.1, h.2]
    rfl
  · rw [decide_eq_false h]
    by_cases h1 : a = 0
    · have : ¬ b = 0 := fun e => h ⟨h1, e⟩
      simp [h1, this]
    · simp [h1]
theorem shaped_two (a b : Int) : SeqAt.shaped (.tuple [.int a, .int b]) = true := by simp [SeqAt.shaped, PyData.canLay0, PyData.canLayAll0, PyData.depth, PyData.depthAll]
/-- the press of a sign, or the rub, is too much -/
abbrev TooP (S : TSt) (h : Nat) (z : Str) : Prop := MarkOk z ∧ SetPre S (S.signs ++ [z]) (ordP S h) (deedP S h z) ∧ ¬ PgOk (pageR (S.signs ++ [z]) (ordP S h) (deedP S h z))
abbrev TooR (S : TSt) (h : Nat) : Prop := ∃ m, nearR S h (-1) = some m ∧ SetPre S S.signs S.order (S.deeds ++ [((h, ("" : Str), m, true) : Deed)]) ∧ ¬ PgOk (pageR S.signs S.order (S.deeds ++ [((h, ("" : Str), m, true) : Deed)]))
/-- the works of which there may be some -/
def IsW (cells : List (Str × Addr)) (S : TSt) (h : Nat) (H : Hp) (f : Addr) : Prop :=
  (TooP S h "a" ∧ ∃ c, HfL f ⟨"<lambda>", q1S, lw1.1, [], lw1.2.2, cloFrom cells lw1.2.2.names [], c⟩ lw1.2.1 H) ∨
  (TooP S h "\t" ∧ ∃ c t, HfD f ⟨"<lambda>", q1S, lw2.1, [], lw2.2.2, cloFrom cells lw2.2.2.names [], c⟩ lw2.2.1 t (.int 0) H) ∨
  (TooP S h "\n" ∧ ∃ c t, HfD f ⟨"<lambda>", q1S, lw3.1, [], lw3.2.2, cloFrom cells lw3.2.2.names [], c⟩ lw3.2.1 t (.int 0) H) ∨
  (TooR S h ∧ ∃ c t, HfD f ⟨"<lambda>", q1S, lw4.1, [], lw4.2.2, cloFrom cells lw4.2.2.names [], c⟩ lw4.2.1 t (.int 0) H) ∨
  (TooR S h ∧ ∃ c t, HfD f ⟨"<lambda>", q1S, lw5.1, [], lw5.2.2, cloFrom cells lw5.2.2.names [], c⟩ lw5.2.1 t (.int 0) H)
theorem fnL_nl {f : Addr} {F : NF} {e : Expr} : ∀ us, FnL f F e ≠ .lst us := fun us z => by unfold FnL at z; cases z
theorem fnD_nl {f t : Addr} {F : NF} {e : Expr} : ∀ us, FnD f F e t ≠ .lst us := fun us z => by unfold FnD at z; cases z
theorem codeO_nl {c : Addr} {q : Str} : ∀ us, LamX.CodeO c q ≠ .lst us := fun us z => by unfold LamX.CodeO at z; cases z
theorem IsW.keep {cells : List (Str × Addr)} {S : TSt} {h : Nat} {H H' : Hp} {f : Addr} (x : ∀ c o, H c = some o → (∀ ps, o ≠ .tbl ps) → (∀ us, o ≠ .lst us) → H' c = some o) (i : IsW cells S h H f) : IsW cells S h H' f := by
  have kL : ∀ {g : Addr} {F : NF} {e : Expr}, HfL g F e H → HfL g F e H' := fun hl => ⟨x _ _ hl.1 fnL_ne fnL_nl, x _ _ hl.2 LamX.codeO_ne codeO_nl⟩
  have kD : ∀ {g t : Addr} {F : NF} {e : Expr} {v : V}, HfD g F e t v H → HfD g F e t v H' := fun hl => ⟨x _ _ hl.1 fnD_ne fnD_nl, x _ _ hl.2.1 LamX.codeO_ne codeO_nl, x _ _ hl.2.2 (fun ps z => nomatch z) (fun us z => nomatch z)⟩
  rcases i with ⟨p, c, q⟩ | ⟨p, c, t, q⟩ | ⟨p, c, t, q⟩ | ⟨p, c, t, q⟩ | ⟨p, c, t, q⟩
  · exact .inl ⟨p, c, kL q⟩
  · exact .inr (.inl ⟨p, c, t, kD q⟩)
  · exact .inr (.inr (.inl ⟨p, c, t, kD q⟩))
  · exact .inr (.inr (.inr (.inl ⟨p, c, t, kD q⟩)))
  · exact .inr (.inr (.inr (.inr ⟨p, c, t, kD q⟩)))
section
variable {K : PySem.W.Frag} {cs : List (Addr × Addr)} {B p1 p2 b l st tb : Addr} {gap least : Int} {a a' : TA} {S S' : TSt} {H H' : Hp} {Z : Addr → Prop}
/-- an own list changes -/
theorem SitT.put {c : Addr} {us ws : List V} (o : SitT K cs B p1 p2 b l st tb gap least a S H) (n1 : ApartT cs p1) (n2 : ApartT cs p2) (h : H c = some (.lst us)) (nc : ¬ ownT tb a c) (nb : ¬ (c = b ∨ c = l)) : SitT K cs B p1 p2 b l st tb gap least a S (upd H c (.lst ws)) := by
  have y : KN cs (fun d => d = c) H (upd H c (.lst ws)) := fun d u h _ n => by rw [upd_ne n]; exact h
  have m : Mob H (fun d => d = c) := fun d e => .inl ⟨us, e ▸ h⟩
  obtain ⟨ns, s1, e1, e2, e3⟩ := o.box
  exact ⟨⟨ns, s1, y.w _ _ e1 (fun ps z => (nomatch z)) fun z => nb (.inl z.symm), y.w _ _ e2 (fun ps z => (nomatch z)) fun z => nb (.inr z.symm), e3⟩, tabs_lst o.tab h, tabS_kn y m n1 o.l1, tabS_kn y m n2 o.l2, ⟨sqT_km y.w m o.sty.tup, o.sty.g0, o.sty.g1, o.sty.l0, o.sty.l1⟩, o.tt.km y.w m (fun d hd z => nc (z ▸ hd)), o.est, o.d1⟩
/-- all that stands in _law_too_much -/
structure TMs (K : PySem.W.Frag) (cs : List (Addr × Addr)) (B p1 p2 b l st tb : Addr) (gap least : Int) (a : TA) (S : TSt) (cells : List (Str × Addr)) (h : Nat) (r0 lw : Addr) (ps : List Addr) (H0 : Hp) (n : Nat) (H : Hp) : Prop where
  o : SitT K cs B p1 p2 b l st tb gap least a S H
  wk : ∃ fs : List Addr, H lw = some (.lst (fs.map V.ref)) ∧ fs.length ≤ n ∧ ∀ f ∈ fs, IsW cells S h H f
  pg : H r0 = some (.lst (ps.map V.ref))
  row : RowsAt ps (rowsT (txt S)) H
  kp : ∀ Z : Addr → Prop, (∀ c, Z c → H0 c ≠ none) → Kp Z H0 H
  lw0 : H0 lw = none
  r00 : H0 r0 ≠ none
  ow : ∀ c, ownT tb a c ∨ c = b ∨ c = l → H0 c ≠ none
variable {cells : List (Str × Addr)} {h : Nat} {r0 lw : Addr} {ps : List Addr} {H0 : Hp} {n : Nat}
theorem TMs.ex (m : TMs K cs B p1 p2 b l st tb gap least a S cells h r0 lw ps H0 n H) (n1 : ApartT cs p1) (n2 : ApartT cs p2) (x : Ex cs H H') : TMs K cs B p1 p2 b l st tb gap least a S cells h r0 lw ps H0 n H' := by
  obtain ⟨fs, w1, w2, w3⟩ := m.wk
  exact ⟨m.o.ex n1 n2 x, ⟨fs, x.lst w1, w2, fun f hf => (w3 f hf).keep fun c o h n _ => x.ext _ _ h n⟩, x.lst m.pg, ⟨m.row.len, fun i q z e1 e2 => x.tup (m.row.row i q z e1 e2)⟩, fun Z z => (m.kp Z z).tr (Kp.ext x.ext), m.lw0, m.r00, m.ow⟩
theorem TMs.add {H1 : Hp} {f : Addr} {fs : List Addr} (m : TMs K cs B p1 p2 b l st tb gap least a S cells h r0 lw ps H0 n H) (n1 : ApartT cs p1) (n2 : ApartT cs p2) (np : p2 ≠ p1) (x : Lm p1 H H1) (t : LamX.TabS H1 p1 q1S) (hw : H lw = some (.lst (fs.map V.ref))) (hl : fs.length ≤ n) (hi : ∀ g ∈ fs, IsW cells S h H g) (iw : IsW cells S h H1 f) :
    H1 lw = some (.lst (fs.map V.ref)) ∧ TMs K cs B p1 p2 b l st tb gap least a S cells h r0 lw ps H0 (n + 1) (upd H1 lw (.lst (fs.map V.ref ++ [.ref f]))) := by
  have xe := x.ext m.o.l1
  have o1 := m.o.lam1 n1 np x t
  have hw1 := xe _ _ hw (fun ps z => nomatch z)
  have nc : ¬ ownT tb a lw := fun z => m.ow lw (.inl z) m.lw0
  have nb : ¬ (lw = b ∨ lw = l) := fun z => m.ow lw (.inr z) m.lw0
  have nr : r0 ≠ lw := fun z => m.r00 (by rw [z]; exact m.lw0)
  have ku : ∀ c o, H1 c = some o → (∀ us, o ≠ .lst us) → upd H1 lw (.lst (fs.map V.ref ++ [.ref f])) c = some o := fun c o hc n => by
    rw [upd_ne (fun z => by rw [z, hw1] at hc; cases hc; exact n _ rfl)]
    exact hc
  refine ⟨hw1, o1.put n1 n2 hw1 nc nb, ⟨fs ++ [f], by rw [upd_same, List.map_append]; rfl, by rw [List.length_append]; show fs.length + 1 ≤ n + 1; omega, fun g hg => ?_⟩, by rw [upd_ne nr]; exact xe _ _ m.pg (fun ps z => nomatch z), ⟨m.row.len, fun i q z e1 e2 => ku _ _ (xe _ _ (m.row.row i q z e1 e2) fun ps z => nomatch z) fun us z => nomatch z⟩, fun Z z => ((m.kp Z z).tr (Kp.ext xe)).tr ⟨fun c us zc hc => ?_, fun c us hc => ku _ _ hc fun us z => nomatch z⟩, m.lw0, m.r00, m.ow⟩
  · rcases List.mem_append.mp hg with q | q
    · exact ((hi g q).keep fun c o h n _ => xe _ _ h n).keep fun c o h _ n => ku _ _ h n
    · rw [List.mem_singleton] at q
      rw [q]
      exact iw.keep fun c o h _ n => ku _ _ h n
  · rw [upd_ne (fun e => z c zc (by rw [e]; exact m.lw0))]
    exact hc
end
section
variable {P : Program} {w : World} {K : PySem.W.Frag} {mg : Str → Option Value} {base : Heap} {cs : List (Addr × Addr)} {B C TM p1 p2 : Addr}
def spTooMuch (K : PySem.W.Frag) (cs : List (Addr × Addr)) (B p1 p2 : Addr) : Sp := fun vs H Q _ => ∃ (b l st tb : Addr) (gap least : Int) (a : TA) (S : TSt) (O : List Nat) (n0 h : Nat) (r0 : Addr) (ps : List Addr), vs = [.ref tb, .int (h : Nat), .ref r0] ∧ SitT K cs B p1 p2 b l st tb gap least a S H ∧ AllP S O n0 ∧ h < S.spots.length ∧ PgOk (rowsT (txt S)) ∧ S.signs.length ≤ 3900 ∧ S.deeds.length ≤ 900 ∧
  H r0 = some (.lst (ps.map V.ref)) ∧ RowsAt ps (rowsT (txt S)) H ∧ ∀ H', SitT K cs B p1 p2 b l st tb gap least a S H' → (∀ Z : Addr → Prop, (∀ c, Z c → H c ≠ none) → Kp Z H H') → Q (.bl true) H'
abbrev nmTooMuch : List Str := ["_law_table", "_law_hand", "_law_page_here", "_law_row_here", "_law_cell_here", "_law_place", "_law_works", "_law_ahead"]
theorem sc_tooMuch : FnScope nmTooMuch ["_law_table", "_law_hand", "_law_page_here"] (defScope s_too_much) := ⟨rfl, rfl, rfl, by decide +kernel, rfl, by decide +kernel, by decide +kernel⟩
theorem ok_tooMuch {f cd ga gA gw gr : Addr} {fd fda fdA fdw fdr : FuncData} (T : Txt mg) (X : TabC K B) (eTM : TM = He.ga K (nmE 10)) (n1 : ApartT cs p1) (n2 : ApartT cs p2) (np : p2 ≠ p1) (F : Fun K "_law_too_much" "_law_too_much" s_too_much f fd) (hcode : fd.code = .ref cd) (TB : LamX.TabB base mg cd p1)
    (Ma : Meth K B "at" ga) (Ga : FnOk P w K mg base CX0 3 ga fda ["self", "hand"] (spTAt cs B)) (ba : Binds K fda ["self", "hand"] [])
    (GA : FnOk P w K mg base CX0 21 gA fdA ["_law_works", "_law_due"] (spAllW P w K mg base cs 19)) (kA : PySem.W.keepIn K (.ref gA) = true) (bA : Binds K fdA ["_law_works", "_law_due"] []) (mA : mg "_law_all" = some (.ref gA))
    (Mw : Meth K B "press" gw) (Gw : FnOk P w K mg base (L2.CX P w) 18 gw fdw ["self", "hand", "sign"] (spPressT cs B TM)) (bw : Binds K fdw ["self", "hand", "sign"] [])
    (Mr : Meth K B "rub" gr) (Gr : FnOk P w K mg base (L2.CX P w) 18 gr fdr ["self", "hand"] (spTRub cs B C TM)) (br : Binds K fdr ["self", "hand"] []) :
    FnOk P w K mg base CX0 22 f fd ["_law_table", "_law_hand", "_law_page_here"] (spTooMuch K cs B p1 p2) := by
  refine fun_okT F hcode sc_tooMuch (fun vs H Q E h => ?_) (fun A outer s H vs Q E hr h => ?_)
  · obtain ⟨b, l, st, tb, gap, least, a, S, O, n0, h, r0, ps, rfl, _⟩ := h
    rfl
  · obtain ⟨b, l, st, tb, gap, least, a, S, O, n0, h, r0, ps, rfl, o, t, hh, hO, l1, l2, hr0, hrw, kq⟩ := h
    have nd := sc_tooMuch.nd
    have hu := hr.units
    have r3 : Room 3 _ := hr.mono (by decide)
    have rA : Room 21 _ := hr
    have szl : (9000 : Nat) < sizeLine := by decide
    refine ⟨_, (pss_cons (ps_asg (pe_meth (pv 0) X.cls Ma Ga r3 ba .nil pass0 (pa_cons (pv 1) pa_nil)) (pg_tup rfl (pgs_cons (pg_name (i := 3) nd rfl (.inl rfl)) (pgs_cons (pg_name (i := 4) nd rfl (.inl rfl)) (pgs_cons (pg_name (i := 5) nd rfl (.inl rfl)) pgs_nil)))))
      (pss_cons (ps_set (i := 6) nd rfl (.inl rfl) (pe_lst pa_nil))
      (pss_cons (ps_if (pt_cmpR op_eq (pe_callB call_len_str (by rfl) T.len PySem.boot_len (pa_cons (pe_ix ix_tup (pe_ix ix_list (pv 2) (pv 3) (fun _ _ => rfl)) (pv 4) (fun _ _ => rfl)) pa_nil)) pe_int (nomark _)) (pss_one (ps_expr (pe_bm PySem.F.plainAttrs_list PySem.F.slot_list_append PySem.F.type_list_append mt_append (pv 6) (pa_cons (pe_lamC TB rfl rfl fun y hy e => .inl (kl_1 y hy e)) pa_nil)))) pss_nil)
      (pss_cons (ps_if (pt_cmpR op_eq (pe_callB call_len_seq (by rfl) T.len PySem.boot_len (pa_cons (pe_ix ix_list (pv 2) (pv 3) (fun _ _ => rfl)) pa_nil)) pe_int (nomark _)) (pss_one (ps_expr (pe_bm PySem.F.plainAttrs_list PySem.F.slot_list_append PySem.F.type_list_append mt_append (pv 6) (pa_cons (pe_lamD (v := .int 0) TB rfl rfl rfl rfl pe_int (fun y hy e => .inl (kl_2 y hy e)) ⟨("_law_table", .free), by decide +kernel, rfl⟩) pa_nil)))) pss_nil)
      (pss_cons (ps_if (pt_cmpR op_eq (pe_callB call_len_seq (by rfl) T.len PySem.boot_len (pa_cons (pv 2) pa_nil)) pe_int (nomark _)) (pss_one (ps_expr (pe_bm PySem.F.plainAttrs_list PySem.F.slot_list_append PySem.F.type_list_append mt_append (pv 6) (pa_cons (pe_lamD (v := .int 0) TB rfl rfl rfl rfl pe_int (fun y hy e => .inl (kl_3 y hy e)) ⟨("_law_table", .free), by decide +kernel, rfl⟩) pa_nil)))) pss_nil)
      (pss_cons (ps_set (i := 7) nd rfl (.inl rfl) (pe_ifExp (pt_cmpR op_gt (pv 4) pe_int (nomark _)) (pe_ix ix_tup (pe_ix ix_list (pv 2) (pv 3) (fun _ _ => rfl)) (pe_op op_sub (pv 4) pe_int) (fun _ _ => rfl)) (pe_ix ix_tup (pe_ix ix_list (pv 2) (pe_op op_sub (pv 3) pe_int) (fun _ _ => rfl)) (pe_un un_neg pe_int) (fun _ _ => rfl))))
      (pss_cons (ps_if (PW.pt (pw_and (pt_cmpR op_eq (pv 5) pe_int (nomark _)) (pw_and (pt_cmpR (op_neD hu) (pe_tup (pa_cons (pv 3) (pa_cons (pv 4) pa_nil))) (pe_tup (pa_cons pe_int (pa_cons pe_int pa_nil))) (nomark _)) (pw_and1 (pt_cmpR op_gt (pe_op op_add (pe_callB call_len_str (by rfl) T.len PySem.boot_len (pa_cons (pv 7) pa_nil)) (pe_callB call_len_str (by rfl) T.len PySem.boot_len (pa_cons (pe_ix ix_tup (pe_ix ix_list (pv 2) (pv 3) (fun _ _ => rfl)) (pv 4) (fun _ _ => rfl)) pa_nil))) pe_int (nomark _)))))) (pss_one (ps_expr (pe_bm PySem.F.plainAttrs_list PySem.F.slot_list_append PySem.F.type_list_append mt_append (pv 6) (pa_cons (pe_lamD (v := .int 0) TB rfl rfl rfl rfl pe_int (fun y hy e => .inl (kl_4 y hy e)) ⟨("_law_table", .free), by decide +kernel, rfl⟩) pa_nil)))) pss_nil)
      (pss_cons (ps_if (PW.pt (pw_and (pt_cmpR (op_eqD hu) (pe_tup (pa_cons (pv 4) (pa_cons (pv 5) pa_nil))) (pe_tup (pa_cons pe_int (pa_cons pe_int pa_nil))) (nomark _)) (pw_and (pt_cmpR op_gt (pv 3) pe_int (nomark _)) (pw_and1 (pt_cmpR op_gt (pe_op op_add (pe_callB call_len_seq (by rfl) T.len PySem.boot_len (pa_cons (pe_ix ix_list (pv 2) (pv 3) (fun _ _ => rfl)) pa_nil)) (pe_callB call_len_seq (by rfl) T.len PySem.boot_len (pa_cons (pe_ix ix_list (pv 2) (pe_op op_sub (pv 3) pe_int) (fun _ _ => rfl)) pa_nil))) pe_int (nomark _)))))) (pss_one (ps_expr (pe_bm PySem.F.plainAttrs_list PySem.F.slot_list_append PySem.F.type_list_append mt_append (pv 6) (pa_cons (pe_lamD (v := .int 0) TB rfl rfl rfl rfl pe_int (fun y hy e => .inl (kl_5 y hy e)) ⟨("_law_table", .free), by decide +kernel, rfl⟩) pa_nil)))) pss_nil)
      (pss_one (ps_ret (pe_callC (names := frT) GA rA (by rfl) mA kA bA (fun _ _ => rfl) kc_t (pa_cons (pv 6) (pa_cons (pe_tup (pa_cons pe_str (pa_cons pe_int pa_nil))) pa_nil))))))))))))), ?_⟩
    refine ⟨_, rfl, tb, a.dx, _, rfl, o.tt.ob, rfl, _, rfl, tb, h, a, S, rfl, o.tab, o.tt, t.tok, hh, fun tp H1 x1 hq => ?_⟩
    obtain ⟨⟨r, c, k⟩, ea⟩ : ∃ p, p = atR S h := ⟨_, rfl⟩
    rw [← ea] at hq
    have hmem := t.mem hh
    rw [← ea] at hmem
    have pl := TGK.pl_of hmem
    have hrc : r < (rowsT (txt S)).length := pl.n_
    have hrowok := TGK.rowN_ok hO pl.n_
    obtain ⟨qa, hqa⟩ : ∃ qa, ps[r]? = some qa := ⟨_, List.getElem?_eq_getElem (by rw [hrw.len]; exact hrc)⟩
    have hz : (TGK.rowN (rowsT (txt S)) r)[c]? = some ((TGK.rowN (rowsT (txt S)) r).getD c nilS) := by rw [List.getD_eq_getElem?_getD, List.getElem?_eq_getElem pl.c_]; rfl
    have hcell := (hrowok.cells _ (List.mem_of_getElem? hz)).len
    have rget : (rowsT (txt S))[r]? = some (TGK.rowN (rowsT (txt S)) r) := by
      show _ = some ((rowsT (txt S)).getD r [])
      rw [List.getD_eq_getElem?_getD, List.getElem?_eq_getElem hrc]
      rfl
    have r6 := hrowok.len
    have l30 := hO.len
    refine ⟨tp, _, rfl, SqT.of hq, rfl, _, _, rfl, _, _, rfl, _, _, rfl, rfl, small0, fun lw nlw => ?_⟩
    have x2 := x1.trans (Ex.laid (o := .lst []) x1.tab nlw)
    have m : TMs K cs B p1 p2 b l st tb gap least a S (cxOf CX0 P w K mg base nmTooMuch "_law_too_much" (defScope s_too_much) f (.ref cd) A outer s H E).nox.env.cells h r0 lw ps H 0 (upd H1 lw (.lst [])) :=
      ⟨o.ex n1 n2 x2, ⟨[], upd_same, Nat.le_refl 0, fun f hf => nomatch hf⟩, x2.lst hr0, ⟨hrw.len, fun i q z e1 e2 => x2.tup (hrw.row i q z e1 e2)⟩, fun Z z => Kp.ext x2.ext, x1.old _ nlw, (by rw [hr0]; exact fun e => nomatch e), fun d hd e => by
        rcases hd with hd | hd
        · rcases o.tt.mob d hd with ⟨us, g⟩ | ⟨_, _, _, g⟩ <;> rw [e] at g <;> cases g
        · obtain ⟨ns, s1, e1, e2, _⟩ := o.box
          rcases hd with hd | hd
          · rw [hd, e1] at e; cases e
          · rw [hd, e2] at e; cases e⟩
    generalize upd H1 lw (.lst []) = H2 at m ⊢
    clear x1 x2 nlw hq
    -- readings of the page
    have atr : ∀ {H' : Hp} {n : Nat}, TMs K cs B p1 p2 b l st tb gap least a S (cxOf CX0 P w K mg base nmTooMuch "_law_too_much" (defScope s_too_much) f (.ref cd) A outer s H E).nox.env.cells h r0 lw ps H n H' → SqL K H' r0 (ps.map V.ref) ∧ SqT K H' qa (sV (TGK.rowN (rowsT (txt S)) r)) := fun m => ⟨SqL.of m.pg, SqT.of (m.row.row r qa _ hqa rget)⟩
    have ixr : atI (ps.map V.ref) ((r : Nat) : Int) = some (.ref qa) := atI_nat (by rw [List.getElem?_map, hqa]; rfl)
    have ixc : atI (sV (TGK.rowN (rowsT (txt S)) r)) ((c : Nat) : Int) = some (.str ((TGK.rowN (rowsT (txt S)) r).getD c nilS)) := atI_nat (by rw [List.getElem?_map, hz]; rfl)
    have lsv : (sV (TGK.rowN (rowsT (txt S)) r)).length = (TGK.rowN (rowsT (txt S)) r).length := List.length_map ..
    have mka : MarkOk ("a" : Str) := .inr (.inr ⟨97, by decide +kernel, by decide⟩)
    have tooP : ∀ {z : Str}, MarkOk z → TGK.doneR (rowsT (txt S)) (TGK.pressD (r, c, k) z) = none → TooP S h z := fun mk d => ⟨mk, t.setP hh mk l1 l2, t.no_press hh mk l1 l2 hO (by rw [← ea]; exact d)⟩
    have tooR : ∀ {q : Nat × Nat × Nat}, TGK.besideR (rowsT (txt S)) (r, c, k) (-1) = some q → TGK.doneR (rowsT (txt S)) (TGK.rubD (r, c, k) q) = none → TooR S h := fun e d => by
      obtain ⟨mm, e1, e2⟩ := t.no_rub hh l2 hO (by rw [← ea]; exact e) (by rw [← ea]; exact d)
      obtain ⟨_, _, _, _, g, _⟩ := t.rub hh l2 e1
      exact ⟨mm, e1, g, e2⟩
    -- the cell
    refine' cutS _ (fun σ H' => σ = [some (.ref tb), some (.int (h : Nat)), some (.ref r0), some (.int (r : Nat)), some (.int (c : Nat)), some (.int (k : Nat)), some (.ref lw), none] ∧ TMs K cs B p1 p2 b l st tb gap least a S (cxOf CX0 P w K mg base nmTooMuch "_law_too_much" (defScope s_too_much) f (.ref cd) A outer s H E).nox.env.cells h r0 lw ps H 1 H') (fun rest => _) _
    rotate_left
    · obtain ⟨a1, a2⟩ := atr m
      refine ⟨_, rfl, _, rfl, r0, _, _, _, rfl, rfl, a1, ixr, _, rfl, qa, _, _, _, rfl, rfl, a2, ixc, _, rfl, by omega, rfl, ?_⟩
      by_cases e : ¬ ((TGK.rowN (rowsT (txt S)) r).getD c nilS).length = 10
      · refine ⟨false, dF (fun z => e (by injection z with z; exact Int.ofNat.inj z)), iteF ?_⟩
        obtain ⟨fs, w1, w2, w3⟩ := m.wk
        exact rest _ _ ⟨rfl, m.o, ⟨fs, w1, Nat.le_succ_of_le w2, w3⟩, m.pg, m.row, m.kp, m.lw0, m.r00, m.ow⟩
      · have e := Decidable.not_not.mp e
        refine ⟨true, dT (by rw [e]; rfl), iteT ?_⟩
        obtain ⟨fs, w1, w2, w3⟩ := m.wk
        refine ⟨_, rfl, .inl ⟨rfl, _, SqL.of w1⟩, m.o.l1, fun f3 c3 H3 e5 e6 t4 nf3 hf hc => ?_⟩
        obtain ⟨w4, m2⟩ := m.add n1 n2 np ⟨e5, e6⟩ t4 w1 w2 w3 (.inl ⟨tooP mka (TGK.full_sign pl e (by decide +kernel) (by decide +kernel) (by decide +kernel)), c3, hf, hc⟩)
        exact ⟨lw, _, _, rfl, rfl, w4, by rw [List.length_map]; omega, rest _ _ ⟨rfl, m2⟩⟩
    clear m
    rintro σ H3 ⟨rfl, m⟩
    -- the row
    refine' cutS _ (fun σ H' => σ = [some (.ref tb), some (.int (h : Nat)), some (.ref r0), some (.int (r : Nat)), some (.int (c : Nat)), some (.int (k : Nat)), some (.ref lw), none] ∧ TMs K cs B p1 p2 b l st tb gap least a S (cxOf CX0 P w K mg base nmTooMuch "_law_too_much" (defScope s_too_much) f (.ref cd) A outer s H E).nox.env.cells h r0 lw ps H 2 H') (fun rest => _) _
    rotate_left
    · obtain ⟨a1, a2⟩ := atr m
      refine ⟨_, rfl, _, rfl, r0, _, _, _, rfl, rfl, a1, ixr, qa, _, rfl, .inr a2, rfl, ?_⟩
      by_cases e : ¬ (TGK.rowN (rowsT (txt S)) r).length = 6
      · refine ⟨false, dF (fun z => e (by injection z with z; rw [lsv] at z; exact Int.ofNat.inj z)), iteF ?_⟩
        obtain ⟨fs, w1, w2, w3⟩ := m.wk
        exact rest _ _ ⟨rfl, m.o, ⟨fs, w1, Nat.le_succ_of_le w2, w3⟩, m.pg, m.row, m.kp, m.lw0, m.r00, m.ow⟩
      · have e := Decidable.not_not.mp e
        refine ⟨true, dT (by rw [lsv, e]; rfl), iteT ?_⟩
        obtain ⟨fs, w1, w2, w3⟩ := m.wk
        refine ⟨_, rfl, .inl ⟨rfl, _, SqL.of w1⟩, m.o.l1, fun f3 c3 t3 H3 e5 e6 t4 nf3 hD => ?_⟩
        obtain ⟨w4, m2⟩ := m.add n1 n2 np ⟨e5, e6⟩ t4 w1 w2 w3 (.inr (.inl ⟨tooP (.inl rfl) (TGK.full_tab pl e), c3, t3, hD⟩))
        exact ⟨lw, _, _, rfl, rfl, w4, by rw [List.length_map]; omega, rest _ _ ⟨rfl, m2⟩⟩
    clear m
    rintro σ H4 ⟨rfl, m⟩
    -- the rows
    refine' cutS _ (fun σ H' => σ = [some (.ref tb), some (.int (h : Nat)), some (.ref r0), some (.int (r : Nat)), some (.int (c : Nat)), some (.int (k : Nat)), some (.ref lw), none] ∧ TMs K cs B p1 p2 b l st tb gap least a S (cxOf CX0 P w K mg base nmTooMuch "_law_too_much" (defScope s_too_much) f (.ref cd) A outer s H E).nox.env.cells h r0 lw ps H 3 H') (fun rest => _) _
    rotate_left
    · obtain ⟨a1, a2⟩ := atr m
      refine ⟨_, rfl, r0, _, rfl, .inl a1, rfl, ?_⟩
      by_cases e : ¬ (rowsT (txt S)).length = 30
      · refine ⟨false, dF (fun z => e (by injection z with z; rw [List.length_map, hrw.len] at z; exact Int.ofNat.inj z)), iteF ?_⟩
        obtain ⟨fs, w1, w2, w3⟩ := m.wk
        exact rest _ _ ⟨rfl, m.o, ⟨fs, w1, Nat.le_succ_of_le w2, w3⟩, m.pg, m.row, m.kp, m.lw0, m.r00, m.ow⟩
      · have e := Decidable.not_not.mp e
        refine ⟨true, dT (by rw [List.length_map, hrw.len, e]; rfl), iteT ?_⟩
        obtain ⟨fs, w1, w2, w3⟩ := m.wk
        refine ⟨_, rfl, .inl ⟨rfl, _, SqL.of w1⟩, m.o.l1, fun f3 c3 t3 H3 e5 e6 t4 nf3 hD => ?_⟩
        obtain ⟨w4, m2⟩ := m.add n1 n2 np ⟨e5, e6⟩ t4 w1 w2 w3 (.inr (.inr (.inl ⟨tooP (.inr (.inl rfl)) (TGK.full_line e), c3, t3, hD⟩)))
        exact ⟨lw, _, _, rfl, rfl, w4, by rw [List.length_map]; omega, rest _ _ ⟨rfl, m2⟩⟩
    clear m
    rintro σ H5 ⟨rfl, m⟩
    -- the row ahead
    have pre : ∀ {H' : Hp} {n : Nat}, TMs K cs B p1 p2 b l st tb gap least a S (cxOf CX0 P w K mg base nmTooMuch "_law_too_much" (defScope s_too_much) f (.ref cd) A outer s H E).nox.env.cells h r0 lw ps H n H' → ∃ (qb : Addr) (rb : List Str), atI (ps.map V.ref) (((r : Nat) : Int) - 1) = some (.ref qb) ∧ SqT K H' qb (sV rb) ∧ RowOk rb ∧ (0 < r → rb = TGK.rowN (rowsT (txt S)) (r - 1)) := fun {H' n} m => by
      by_cases e0 : r = 0
      · obtain ⟨qb, g1, g2⟩ := rowsAt_last m.row hO.pos
        refine ⟨qb, _, by rw [e0]; exact g1, SqT.of g2, ?_, fun z => absurd z (by omega)⟩
        obtain ⟨x, hx⟩ : ∃ x, (rowsT (txt S)).getLast? = some x := by
          rw [List.getLast?_eq_getElem?]
          exact ⟨_, List.getElem?_eq_getElem (by have := hO.pos; omega)⟩
        rw [hx]
        exact hO.rows x (List.mem_of_getLast? hx)
      · have h1 : r - 1 < (rowsT (txt S)).length := by omega
        obtain ⟨qb, hqb⟩ : ∃ qb, ps[r - 1]? = some qb := ⟨_, List.getElem?_eq_getElem (by rw [hrw.len]; exact h1)⟩
        have rg : (rowsT (txt S))[r - 1]? = some (TGK.rowN (rowsT (txt S)) (r - 1)) := by
          show _ = some ((rowsT (txt S)).getD (r - 1) [])
          rw [List.getD_eq_getElem?_getD, List.getElem?_eq_getElem h1]
          rfl
        refine ⟨qb, _, ?_, SqT.of (m.row.row (r - 1) qb _ hqb rg), TGK.rowN_ok hO h1, fun _ => rfl⟩
        rw [show ((r : Nat) : Int) - 1 = ((r - 1 : Nat) : Int) by omega]
        exact atI_nat (by rw [List.getElem?_map, hqb]; rfl)
    refine' cutS _ (fun σ H' => ∃ za : Str, za.length ≤ 10 ∧ (0 < c → za = (TGK.rowN (rowsT (txt S)) r).getD (c - 1) nilS) ∧ (c = 0 → 0 < r → za = (TGK.rowN (rowsT (txt S)) (r - 1)).getLast?.getD nilS) ∧ σ = [some (.ref tb), some (.int (h : Nat)), some (.ref r0), some (.int (r : Nat)), some (.int (c : Nat)), some (.int (k : Nat)), some (.ref lw), some (.str za)] ∧ TMs K cs B p1 p2 b l st tb gap least a S (cxOf CX0 P w K mg base nmTooMuch "_law_too_much" (defScope s_too_much) f (.ref cd) A outer s H E).nox.env.cells h r0 lw ps H 3 H') (fun rest => _) _
    rotate_left
    · obtain ⟨a1, a2⟩ := atr m
      refine ⟨_, rfl, _, _, rfl, rfl, ?_⟩
      by_cases e : ¬ 0 < c
      · obtain ⟨qb, rb, g1, g2, g3, g4⟩ := pre m
        refine ⟨false, dF (fun z => e (by omega)), iteF ⟨_, rfl, _, rfl, _, _, rfl, rfl, r0, _, _, _, rfl, rfl, a1, g1, 1, rfl, qb, _, _, _, rfl, rfl, g2, atZ_lastT g3.pos, ?_⟩⟩
        refine rest _ _ ⟨rb.getLast?.getD nilS, ?_, fun z => absurd z e, fun _ z => by rw [g4 z], rfl, m⟩
        obtain ⟨x, hx⟩ : ∃ x, rb.getLast? = some x := by
          rw [List.getLast?_eq_getElem?]
          exact ⟨_, List.getElem?_eq_getElem (by have := g3.pos; omega)⟩
        rw [hx]
        exact (g3.cells x (List.mem_of_getLast? hx)).len
      · have e := Decidable.not_not.mp e
        have hc1 : c - 1 < (TGK.rowN (rowsT (txt S)) r).length := by have := pl.c_; omega
        have hz1 : (TGK.rowN (rowsT (txt S)) r)[c - 1]? = some ((TGK.rowN (rowsT (txt S)) r).getD (c - 1) nilS) := by rw [List.getD_eq_getElem?_getD, List.getElem?_eq_getElem hc1]; rfl
        refine ⟨true, dT (by omega), iteT ⟨_, rfl, _, rfl, r0, _, _, _, rfl, rfl, a1, ixr, _, rfl, _, _, rfl, rfl, qa, _, _, .str ((TGK.rowN (rowsT (txt S)) r).getD (c - 1) nilS), rfl, rfl, a2, ?_, ?_⟩⟩
        · show atI _ (((c : Nat) : Int) - 1) = _
          rw [show ((c : Nat) : Int) - 1 = ((c - 1 : Nat) : Int) by omega]
          exact atI_nat (by rw [List.getElem?_map, hz1]; rfl)
        · exact rest _ _ ⟨_, (hrowok.cells _ (List.mem_of_getElem? hz1)).len, fun _ => rfl, fun z => absurd z (by omega), rfl, m⟩
    clear m
    rintro σ H6 ⟨za, z10, zc, zr, rfl, m⟩
    -- ahead of it
    refine' cutS _ (fun σ H' => σ = [some (.ref tb), some (.int (h : Nat)), some (.ref r0), some (.int (r : Nat)), some (.int (c : Nat)), some (.int (k : Nat)), some (.ref lw), some (.str za)] ∧ TMs K cs B p1 p2 b l st tb gap least a S (cxOf CX0 P w K mg base nmTooMuch "_law_too_much" (defScope s_too_much) f (.ref cd) A outer s H E).nox.env.cells h r0 lw ps H 4 H') (fun rest => _) _
    rotate_left
    · obtain ⟨a1, a2⟩ := atr m
      have no : ∀ {H' : Hp}, TMs K cs B p1 p2 b l st tb gap least a S (cxOf CX0 P w K mg base nmTooMuch "_law_too_much" (defScope s_too_much) f (.ref cd) A outer s H E).nox.env.cells h r0 lw ps H 3 H' → TMs K cs B p1 p2 b l st tb gap least a S (cxOf CX0 P w K mg base nmTooMuch "_law_too_much" (defScope s_too_much) f (.ref cd) A outer s H E).nox.env.cells h r0 lw ps H 4 H' := fun m => by
        obtain ⟨fs, w1, w2, w3⟩ := m.wk
        exact ⟨m.o, ⟨fs, w1, Nat.le_succ_of_le w2, w3⟩, m.pg, m.row, m.kp, m.lw0, m.r00, m.ow⟩
      by_cases ek : ¬ k = 0
      · refine ⟨_, rfl, rfl, false, dF (fun z => ek (by injection z with z; exact Int.ofNat.inj z)), iteF (iteF ?_)⟩
        exact rest _ _ ⟨rfl, no m⟩
      have ek := Decidable.not_not.mp ek
      refine ⟨_, rfl, rfl, true, dT (by rw [ek]; rfl), iteT ?_⟩
      refine ⟨_, rfl, _, rfl, by show 2 ≤ sizeLine; decide, fun t1 nt1 => ⟨by show 2 ≤ sizeLine; decide, fun t2 nt2 => ?_⟩⟩
      have y1 := Ex.laid (o := .tup [V.int (r : Nat), V.int (c : Nat)]) m.o.tab nt1
      have y2 := Ex.laid (o := .tup [V.int 0, V.int 0]) y1.tab nt2
      have m := m.ex n1 n2 (y1.trans y2)
      have ht1 := y2.tup (upd_same (H := H6) (a := t1) (o := .tup [V.int (r : Nat), V.int (c : Nat)]))
      have ht2 := upd_same (H := upd H6 t1 (.tup [V.int (r : Nat), V.int (c : Nat)])) (a := t2) (o := .tup [V.int 0, V.int 0])
      generalize upd (upd H6 t1 (.tup [V.int (r : Nat), V.int (c : Nat)])) t2 (.tup [V.int 0, V.int 0]) = H7 at m ht1 ht2 ⊢
      refine ⟨.tuple [.int (r : Nat), .int (c : Nat)], .tuple [.int 0, .int 0], .tup (SqT.of ht1) (.cons (.int _) (.cons (.int _) .nil)), .tup (SqT.of ht2) (.cons (.int _) (.cons (.int _) .nil)), shaped_two _ _, shaped_two _ _, ?_⟩
      rw [eqv_two]
      by_cases erc : r = 0 ∧ c = 0
      · rw [decide_eq_true (by omega)]
        refine ⟨false, rfl, iteF (iteF ?_)⟩
        exact rest _ _ ⟨rfl, no m⟩
      rw [decide_eq_false (by omega)]
      refine ⟨true, rfl, iteT ?_⟩
      obtain ⟨a1, a2⟩ := atr m
      refine ⟨_, rfl, za, rfl, by omega, _, rfl, _, rfl, r0, _, _, _, rfl, rfl, a1, ixr, _, rfl, qa, _, _, _, rfl, rfl, a2, ixc, _, rfl, by omega, _, _, rfl, rfl, _, _, rfl, rfl, ?_⟩
      by_cases eg : ¬ 10 < za.length + ((TGK.rowN (rowsT (txt S)) r).getD c nilS).length
      · refine ⟨false, dF (fun z => eg (by omega)), iteF ?_⟩
        exact rest _ _ ⟨rfl, no m⟩
      have eg := Decidable.not_not.mp eg
      refine ⟨true, dT (by omega), iteT ?_⟩
      have tr : TooR S h := by
        subst ek
        cases c with
        | succ c' =>
          have ez : za = (TGK.rowN (rowsT (txt S)) r).getD c' nilS := zc (Nat.succ_pos _)
          rw [ez] at eg
          exact tooR (TGK.back_cell pl) (TGK.full_cell pl eg)
        | zero =>
          cases r with
          | zero => exact absurd ⟨rfl, rfl⟩ erc
          | succ r' =>
            have ez : za = (TGK.rowN (rowsT (txt S)) r').getLast?.getD nilS := zr rfl (Nat.succ_pos _)
            have ok' := TGK.rowN_ok hO (n := r') (by omega)
            have hh0 : (TGK.rowN (rowsT (txt S)) (r' + 1)).getD 0 nilS = (TGK.rowN (rowsT (txt S)) (r' + 1)).headD nilS := by
              cases TGK.rowN (rowsT (txt S)) (r' + 1) <;> rfl
            rw [ez, hh0] at eg
            exact tooR (TGK.back_row hrc ok'.pos hrowok.pos) (TGK.full_row (q := (_, _)) hrc ok'.pos hrowok.pos (.inr eg))
      obtain ⟨fs, w1, w2, w3⟩ := m.wk
      refine ⟨_, rfl, .inl ⟨rfl, _, SqL.of w1⟩, m.o.l1, fun f3 c3 t3 H3 e5 e6 t4 nf3 hD => ?_⟩
      obtain ⟨w4, m2⟩ := m.add n1 n2 np ⟨e5, e6⟩ t4 w1 w2 w3 (.inr (.inr (.inr (.inl ⟨tr, c3, t3, hD⟩))))
      exact ⟨lw, _, _, rfl, rfl, w4, by rw [List.length_map]; omega, rest _ _ ⟨rfl, m2⟩⟩
    clear m
    rintro σ H8 ⟨rfl, m⟩
    -- at a row's begin
    refine' cutS _ (fun σ H' => σ = [some (.ref tb), some (.int (h : Nat)), some (.ref r0), some (.int (r : Nat)), some (.int (c : Nat)), some (.int (k : Nat)), some (.ref lw), some (.str za)] ∧ TMs K cs B p1 p2 b l st tb gap least a S (cxOf CX0 P w K mg base nmTooMuch "_law_too_much" (defScope s_too_much) f (.ref cd) A outer s H E).nox.env.cells h r0 lw ps H 5 H') (fun rest => _) _
    rotate_left
    · have no : ∀ {H' : Hp}, TMs K cs B p1 p2 b l st tb gap least a S (cxOf CX0 P w K mg base nmTooMuch "_law_too_much" (defScope s_too_much) f (.ref cd) A outer s H E).nox.env.cells h r0 lw ps H 4 H' → TMs K cs B p1 p2 b l st tb gap least a S (cxOf CX0 P w K mg base nmTooMuch "_law_too_much" (defScope s_too_much) f (.ref cd) A outer s H E).nox.env.cells h r0 lw ps H 5 H' := fun m => by
        obtain ⟨fs, w1, w2, w3⟩ := m.wk
        exact ⟨m.o, ⟨fs, w1, Nat.le_succ_of_le w2, w3⟩, m.pg, m.row, m.kp, m.lw0, m.r00, m.ow⟩
      refine ⟨_, rfl, _, rfl, by show 2 ≤ sizeLine; decide, fun t1 nt1 => ⟨by show 2 ≤ sizeLine; decide, fun t2 nt2 => ?_⟩⟩
      have y1 := Ex.laid (o := .tup [V.int (c : Nat), V.int (k : Nat)]) m.o.tab nt1
      have y2 := Ex.laid (o := .tup [V.int 0, V.int 0]) y1.tab nt2
      have m := m.ex n1 n2 (y1.trans y2)
      have ht1 := y2.tup (upd_same (H := H8) (a := t1) (o := .tup [V.int (c : Nat), V.int (k : Nat)]))
      have ht2 := upd_same (H := upd H8 t1 (.tup [V.int (c : Nat), V.int (k : Nat)])) (a := t2) (o := .tup [V.int 0, V.int 0])
      generalize upd (upd H8 t1 (.tup [V.int (c : Nat), V.int (k : Nat)])) t2 (.tup [V.int 0, V.int 0]) = H9 at m ht1 ht2 ⊢
      refine ⟨.tuple [.int (c : Nat), .int (k : Nat)], .tuple [.int 0, .int 0], .tup (SqT.of ht1) (.cons (.int _) (.cons (.int _) .nil)), .tup (SqT.of ht2) (.cons (.int _) (.cons (.int _) .nil)), shaped_two _ _, shaped_two _ _, ?_⟩
      rw [eqv_two]
      by_cases eck : ¬ (c = 0 ∧ k = 0)
      · rw [decide_eq_false (by omega)]
        refine ⟨false, rfl, iteF (iteF ?_)⟩
        exact rest _ _ ⟨rfl, no m⟩
      have eck := Decidable.not_not.mp eck
      rw [decide_eq_true (by omega)]
      refine ⟨true, rfl, iteT ⟨_, rfl, _, _, rfl, rfl, ?_⟩⟩
      by_cases er : ¬ 0 < r
      · refine ⟨false, dF (fun z => er (by omega)), iteF (iteF ?_)⟩
        exact rest _ _ ⟨rfl, no m⟩
      have er := Decidable.not_not.mp er
      refine ⟨true, dT (by omega), iteT ?_⟩
      obtain ⟨a1, a2⟩ := atr m
      obtain ⟨qb, rb, g1, g2, g3, g4⟩ := pre m
      have lrb : (sV rb).length = rb.length := List.length_map ..
      refine ⟨_, rfl, _, rfl, r0, _, _, _, rfl, rfl, a1, ixr, qa, _, rfl, .inr a2, _, rfl, _, rfl, _, _, rfl, rfl, r0, _, _, _, rfl, rfl, a1, g1, qb, _, rfl, .inr g2, _, _, rfl, rfl, _, _, rfl, rfl, ?_⟩
      rw [lsv, lrb]
      by_cases eg : ¬ 7 < (TGK.rowN (rowsT (txt S)) r).length + rb.length
      · refine ⟨false, dF (fun z => eg (by omega)), iteF ?_⟩
        exact rest _ _ ⟨rfl, no m⟩
      have eg := Decidable.not_not.mp eg
      refine ⟨true, dT (by omega), iteT ?_⟩
      have tr : TooR S h := by
        obtain ⟨e1, e2⟩ := eck
        subst e1 e2
        cases r with
        | zero => exact absurd er (by omega)
        | succ r' =>
          have ok' := TGK.rowN_ok hO (n := r') (by omega)
          rw [g4 er] at eg
          exact tooR (TGK.back_row hrc ok'.pos hrowok.pos) (TGK.full_row (q := (_, _)) hrc ok'.pos hrowok.pos (.inl eg))
      obtain ⟨fs, w1, w2, w3⟩ := m.wk
      refine ⟨_, rfl, .inl ⟨rfl, _, SqL.of w1⟩, m.o.l1, fun f3 c3 t3 H3 e5 e6 t4 nf3 hD => ?_⟩
      obtain ⟨w4, m2⟩ := m.add n1 n2 np ⟨e5, e6⟩ t4 w1 w2 w3 (.inr (.inr (.inr (.inr ⟨tr, c3, t3, hD⟩))))
      exact ⟨lw, _, _, rfl, rfl, w4, by rw [List.length_map]; omega, rest _ _ ⟨rfl, m2⟩⟩
    clear m
    rintro σ H10 ⟨rfl, m⟩
    -- all of them
    refine ⟨_, rfl, by show 2 ≤ sizeLine; decide, fun dd ndd cl Tc un => ?_⟩
    have yd := Ex.laid (o := .tup [V.str "TooMuch", V.int 0]) m.o.tab ndd
    have hdd := upd_same (H := H10) (a := dd) (o := .tup [V.str "TooMuch", V.int 0])
    have m := m.ex n1 n2 yd
    generalize upd H10 dd (.tup [V.str "TooMuch", V.int 0]) = H11 at m hdd un ⊢
    obtain ⟨fs, w1, w2, w3⟩ := m.wk
    have errT : ∀ H2 : Hp, ErrAt K H2 10 0 (.ref TM) none := fun H2 => ⟨by decide, by rw [eTM], fun n => absurd rfl n, fun _ => ⟨rfl, rfl⟩⟩
    have tadd : Tabs cs (addC H11 cl) := fun q hq => by
      obtain ⟨u, g1, g2⟩ := m.o.tab q hq
      exact ⟨u, add_at un g1, g2⟩
    have hws : ∀ (i : Nat) (y : Str) (v : V), frT[i]? = some y → ([some (.ref tb), some (.int (h : Nat))] : List (Option V))[i]? = some (some v) → ∃ j : Nat, nmTooMuch[j]? = some y ∧ ([some (.ref tb), some (.int (h : Nat)), some (.ref r0), some (.int (r : Nat)), some (.int (c : Nat)), some (.int (k : Nat)), some (.ref lw), some (.str za)] : L2.St)[j]? = some (some v) := fun i y v q1 q2 => by
      match i, q1, q2 with
      | 0, q1, q2 => cases q1; cases q2; exact ⟨0, rfl, rfl⟩
      | 1, q1, q2 => cases q1; cases q2; exact ⟨1, rfl, rfl⟩
      | i + 2, q1, _ => simp at q1
    have runP : ∀ {z : Str}, TooP S h z → ∀ H1, Ex cs H11 H1 → (∀ c o, cl.lookup c = some o → H1 c = none) → ∀ (Z : VK) (E' : XK), (∀ (cls : Value) (d : Option Addr) (H2 : Hp), ErrAt K H2 10 0 cls d → Ex cs H1 H2 → E' cls d H2) → rWP B z (spPressT cs B TM) [some (.ref tb), some (.int (h : Nat))] H1 Z E' := fun {z} tp H1 x1 _ Z E' hE => by
      have o1 := m.o.ex n1 n2 x1
      exact ⟨tb, a.dx, a.fs, h, rfl, o1.tt.ob, rfl, tb, h, z, a, S, rfl, o1.tab, o1.tt, t.tok, hh, tp.1, tp.2.1, fun hp => absurd hp tp.2.2, fun _ H2 x2 => hE _ _ _ (errT H2) x2⟩
    have runR : TooR S h → ∀ H1, Ex cs H11 H1 → (∀ c o, cl.lookup c = some o → H1 c = none) → ∀ (Z : VK) (E' : XK), (∀ (cls : Value) (d : Option Addr) (H2 : Hp), ErrAt K H2 10 0 cls d → Ex cs H1 H2 → E' cls d H2) → rWR B (spTRub cs B C TM) [some (.ref tb), some (.int (h : Nat))] H1 Z E' := fun ⟨mm, e1, e2, e3⟩ H1 x1 _ Z E' hE => by
      have o1 := m.o.ex n1 n2 x1
      refine ⟨tb, a.dx, a.fs, h, rfl, o1.tt.ob, rfl, tb, h, a, S, rfl, o1.tab, o1.tt, t.tok, hh, fun m2 hm => ?_, fun hn => ?_⟩
      · rw [e1] at hm
        cases hm
        exact ⟨e2, fun hp => absurd hp e3, fun _ H2 x2 => hE _ _ _ (errT H2) x2⟩
      · rw [e1] at hn
        cases hn
    refine ⟨lw, dd, fs, 10, 0, rfl, tadd, add_at un w1, add_at un hdd, fun f hf => ?_, fun H' x told => ?_⟩
    · rcases w3 f hf with ⟨tp, c', q⟩ | ⟨tp, c', t', q⟩ | ⟨tp, c', t', q⟩ | ⟨tp, c', t', q⟩ | ⟨tp, c', t', q⟩
      · exact TGK.ref_of (ws := [some (.ref tb), some (.int (h : Nat))]) sc_w1 (fun y hy => sc_w1.free (y, .free) hy rfl) (fun y hy => hy) Tc un rfl rfl hws (fun H1 x => ⟨x.ext _ _ (add_at un q.1) fnL_ne, x.ext _ _ (add_at un q.2) LamX.codeO_ne⟩) (lok_w1 X.cls Mw Gw bw) (runP tp)
      · exact TGK.ref_of (ws := [some (.ref tb), some (.int (h : Nat))]) sc_w2 (fun y hy => sc_w2.free (y, .free) hy rfl) (fun y hy => hy) Tc un rfl rfl hws (fun H1 x => ⟨x.ext _ _ (add_at un q.1) fnD_ne, x.ext _ _ (add_at un q.2.1) LamX.codeO_ne, x.tup (add_at un q.2.2)⟩) (lok_w2 X.cls Mw Gw bw) (runP tp)
      · exact TGK.ref_of (ws := [some (.ref tb), some (.int (h : Nat))]) sc_w3 (fun y hy => sc_w3.free (y, .free) hy rfl) (fun y hy => hy) Tc un rfl rfl hws (fun H1 x => ⟨x.ext _ _ (add_at un q.1) fnD_ne, x.ext _ _ (add_at un q.2.1) LamX.codeO_ne, x.tup (add_at un q.2.2)⟩) (lok_w3 X.cls Mw Gw bw) (runP tp)
      · exact TGK.ref_of (ws := [some (.ref tb), some (.int (h : Nat))]) sc_w4 (fun y hy => sc_w4.free (y, .free) hy rfl) (fun y hy => hy) Tc un rfl rfl hws (fun H1 x => ⟨x.ext _ _ (add_at un q.1) fnD_ne, x.ext _ _ (add_at un q.2.1) LamX.codeO_ne, x.tup (add_at un q.2.2)⟩) (lok_w4 X.cls Mr Gr br) (runR tp)
      · exact TGK.ref_of (ws := [some (.ref tb), some (.int (h : Nat))]) sc_w5 (fun y hy => sc_w5.free (y, .free) hy rfl) (fun y hy => hy) Tc un rfl rfl hws (fun H1 x => ⟨x.ext _ _ (add_at un q.1) fnD_ne, x.ext _ _ (add_at un q.2.1) LamX.codeO_ne, x.tup (add_at un q.2.2)⟩) (lok_w5 X.cls Mr Gr br) (runR tp)
    · have x2 := TGK.ex_del un x
      refine kq _ (m.o.ex n1 n2 x2) fun Z z => (m.kp Z z).tr (Kp.ext x2.ext)
end
end TG

namespace TG
open PySem PySem.Spec PyProof.Rows L2 NdefX GenW Gx Lv Dl
/-! ### the law's own works -/
def noE0 : Expr := .Name "x" ⟨0, 0, 0, 0⟩
def eNth (l : List Expr) (i : Nat) : Expr := l.getD i noE0
def eEls : Expr → List Expr
  | .List es _ => es
  | .BinOp _ _ (.List es _) _ => es
  | _ => []
def eArgs : Expr → List Expr
  | .UnaryOp _ (.Call _ es _ _) _ => es
  | .Compare (.Call _ es _ _) _ _ _ => es
  | _ => []
def eBool : Expr → List Expr
  | .BoolOp _ es _ => es
  | _ => []
def ifT : Stmt → Expr
  | .If t _ _ _ => t
  | _ => noE0
def asV : Stmt → Expr
  | .Assign _ v _ => v
  | _ => noE0
def forB : Stmt → List Stmt
  | .For _ _ b _ _ => b
  | _ => []
abbrev frA : List Str := ["_law_page_here", "_law_style_here", "_law_odd"]
abbrev frB : List Str := ["_law_page_here", "_law_odd"]
abbrev frC : List Str := ["_law_table", "_law_hands"]
abbrev frN : List Str := ["_law_table", "_law_none"]
abbrev frS : List Str := ["_law_table", "_law_hand", "_law_sign_here"]
abbrev frG : List Str := ["_law_table", "_law_hand", "_law_good"]
abbrev la1 : TGK.LamT := TGK.lamOf (eNth (eEls (asV (TGK.stAt (defBody s_law) 5))) 0)
theorem sc_a1 : NScope frA [] frA la1.2.2 := nscope_by (by decide +kernel)
theorem kl_a1 : ∀ y ∈ la1.2.2.names, y.2 = .free → (defScope s_law).names.lookup y.1 = some .cell := by decide +kernel
abbrev la2 : TGK.LamT := TGK.lamOf (eNth (eEls (eNth (eArgs (eNth (eBool (ifT (TGK.stAt (defBody s_law) 6))) 1)) 0)) 0)
theorem sc_a2 : NScope frB [] frB la2.2.2 := nscope_by (by decide +kernel)
theorem kl_a2 : ∀ y ∈ la2.2.2.names, y.2 = .free → (defScope s_law).names.lookup y.1 = some .cell := by decide +kernel
abbrev la3 : TGK.LamT := TGK.lamOf (eNth (eEls (eNth (eArgs (ifT (TGK.stAt (defBody s_law) 8))) 0)) 0)
theorem sc_a3 : NScope frC [] frC la3.2.2 := nscope_by (by decide +kernel)
theorem kl_a3 : ∀ y ∈ la3.2.2.names, y.2 = .free → (defScope s_law).names.lookup y.1 = some .cell := by decide +kernel
abbrev la4 : TGK.LamT := TGK.lamOf (eNth (eEls (asV (TGK.stAt (forB (TGK.stAt (defBody s_law) 9)) 4))) 0)
theorem sc_a4 : NScope frN [] frN la4.2.2 := nscope_by (by decide +kernel)
theorem kl_a4 : ∀ y ∈ la4.2.2.names, y.2 = .free → (defScope s_law).names.lookup y.1 = some .cell := by decide +kernel
abbrev la5 : TGK.LamT := TGK.lamOf (eNth (eEls (asV (TGK.stAt (forB (TGK.stAt (defBody s_law) 9)) 4))) 1)
theorem sc_a5 : NScope ["_law_a", "_law_table", "_law_none"] ["_law_a"] frN la5.2.2 := nscope_by (by decide +kernel)
theorem key_a5 : la5.2.2.names.lookup ("_law_a" : Str) = some .local := by decide +kernel
theorem kl_a5 : ∀ y ∈ la5.2.2.names, y.2 = .free → (defScope s_law).names.lookup y.1 = some .cell := by decide +kernel
abbrev la6 : TGK.LamT := TGK.lamOf (eNth (eEls (asV (TGK.stAt (forB (TGK.stAt (defBody s_law) 9)) 4))) 2)
theorem sc_a6 : NScope ["_law_b", "_law_table", "_law_none"] ["_law_b"] frN la6.2.2 := nscope_by (by decide +kernel)
theorem key_a6 : la6.2.2.names.lookup ("_law_b" : Str) = some .local := by decide +kernel
theorem kl_a6 : ∀ y ∈ la6.2.2.names, y.2 = .free → (defScope s_law).names.lookup y.1 = some .cell := by decide +kernel
abbrev la7 : TGK.LamT := TGK.lamOf (eNth (eEls (asV (TGK.stAt (forB (TGK.stAt (defBody s_law) 9)) 5))) 0)
theorem sc_a7 : NScope ["_law_c", "_law_table", "_law_none"] ["_law_c"] frN la7.2.2 := nscope_by (by decide +kernel)
theorem key_a7 : la7.2.2.names.lookup ("_law_c" : Str) = some .local := by decide +kernel
theorem kl_a7 : ∀ y ∈ la7.2.2.names, y.2 = .free → (defScope s_law).names.lookup y.1 = some .cell := by decide +kernel
abbrev la8 : TGK.LamT := TGK.lamOf (eNth (eEls (asV (TGK.stAt (forB (TGK.stAt (defBody s_law) 9)) 5))) 1)
theorem sc_a8 : NScope ["_law_d", "_law_table", "_law_none"] ["_law_d"] frN la8.2.2 := nscope_by (by decide +kernel)
theorem key_a8 : la8.2.2.names.lookup ("_law_d" : Str) = some .local := by decide +kernel
theorem kl_a8 : ∀ y ∈ la8.2.2.names, y.2 = .free → (defScope s_law).names.lookup y.1 = some .cell := by decide +kernel
abbrev la9 : TGK.LamT := TGK.lamOf (eNth (eEls (asV (TGK.stAt (forB (TGK.stAt (defBody s_law) 9)) 5))) 2)
theorem sc_a9 : NScope ["_law_f", "_law_table", "_law_none"] ["_law_f"] frN la9.2.2 := nscope_by (by decide +kernel)
theorem key_a9 : la9.2.2.names.lookup ("_law_f" : Str) = some .local := by decide +kernel
theorem kl_a9 : ∀ y ∈ la9.2.2.names, y.2 = .free → (defScope s_law).names.lookup y.1 = some .cell := by decide +kernel
abbrev la10 : TGK.LamT := TGK.lamOf (eNth (eEls (eNth (eArgs (ifT (TGK.stAt (forB (TGK.stAt (defBody s_law) 9)) 6))) 0)) 0)
theorem sc_a10 : NScope ["_law_g", "_law_table", "_law_none"] ["_law_g"] frN la10.2.2 := nscope_by (by decide +kernel)
theorem key_a10 : la10.2.2.names.lookup ("_law_g" : Str) = some .local := by decide +kernel
theorem kl_a10 : ∀ y ∈ la10.2.2.names, y.2 = .free → (defScope s_law).names.lookup y.1 = some .cell := by decide +kernel
abbrev la11 : TGK.LamT := TGK.lamOf (eNth (eEls (eNth (eArgs (ifT (TGK.stAt (forB (TGK.stAt (defBody s_law) 9)) 8))) 0)) 0)
theorem sc_a11 : NScope frS [] frS la11.2.2 := nscope_by (by decide +kernel)
theorem kl_a11 : ∀ y ∈ la11.2.2.names, y.2 = .free → (defScope s_law).names.lookup y.1 = some .cell := by decide +kernel
abbrev la12 : TGK.LamT := TGK.lamOf (eNth (eArgs (eNth (eBool (ifT (TGK.stAt (forB (TGK.stAt (defBody s_law) 9)) 11))) 0)) 0)
theorem sc_a12 : NScope frG [] frG la12.2.2 := nscope_by (by decide +kernel)
theorem kl_a12 : ∀ y ∈ la12.2.2.names, y.2 = .free → (defScope s_law).names.lookup y.1 = some .cell := by decide +kernel
theorem kc_frA : ∀ y ∈ frA, (defScope s_law).names.lookup y = some .cell := by decide +kernel
theorem kc_frB : ∀ y ∈ frB, (defScope s_law).names.lookup y = some .cell := by decide +kernel
theorem kc_frC : ∀ y ∈ frC, (defScope s_law).names.lookup y = some .cell := by decide +kernel
theorem kc_frN : ∀ y ∈ frN, (defScope s_law).names.lookup y = some .cell := by decide +kernel
theorem kc_frS : ∀ y ∈ frS, (defScope s_law).names.lookup y = some .cell := by decide +kernel
theorem kc_frG : ∀ y ∈ frG, (defScope s_law).names.lookup y = some .cell := by decide +kernel
/-- a table is made -/
def rMk3 (B : Addr) (sp : Sp) : TGK.RW := fun ws H Q E => ∃ p s h : V, ws = [some p, some s, some h] ∧ ∀ x dx, H x = none → H dx = none → dx ≠ x → sp [.ref x, p, s, h] (upd (upd H dx (.own x)) x (.ins B dx [])) (fun v H2 => v = .non ∧ Q (.ref x) H2) E
def rMk2 (B : Addr) (sp : Sp) : TGK.RW := fun ws H Q E => ∃ p h : V, ws = [some p, some h] ∧ ∀ x dx, H x = none → H dx = none → dx ≠ x → sp [.ref x, p, .non, h] (upd (upd H dx (.own x)) x (.ins B dx [])) (fun v H2 => v = .non ∧ Q (.ref x) H2) E
def rN3 (B : Addr) (sp : Sp) : TGK.RW := fun ws H Q E => ∃ (tb dx : Addr) (fs : List (Str × V)) (h : Int), ws = [some (.ref tb), some (.int h)] ∧ H tb = some (.ins B dx fs) ∧ fs.lookup ("rub" : Str) = none ∧ sp [.ref tb, .int (h - 1)] H Q E
def rN4 (B : Addr) (sp : Sp) : TGK.RW := fun ws H Q E => ∃ (tb dx : Addr) (fs : List (Str × V)) (v : V), ws = [some (.ref tb), some v] ∧ H tb = some (.ins B dx fs) ∧ fs.lookup ("press" : Str) = none ∧ sp [.ref tb, v, .str ""] H Q E
def rN5 (B : Addr) (sp : Sp) : TGK.RW := fun ws H Q E => ∃ (tb dx : Addr) (fs : List (Str × V)) (v : V), ws = [some (.ref tb), some v] ∧ H tb = some (.ins B dx fs) ∧ fs.lookup ("rub" : Str) = none ∧ sp [.ref tb, v] H Q E
def rN6 (B : Addr) (sp : Sp) : TGK.RW := fun ws H Q E => ∃ (tb dx : Addr) (fs : List (Str × V)) (v : V), ws = [some (.ref tb), some v] ∧ H tb = some (.ins B dx fs) ∧ fs.lookup ("back" : Str) = none ∧ sp [.ref tb, v] H Q E
def rN7 (B : Addr) (sp : Sp) : TGK.RW := fun ws H Q E => ∃ (tb dx : Addr) (fs : List (Str × V)) (v : V), ws = [some (.ref tb), some v] ∧ H tb = some (.ins B dx fs) ∧ fs.lookup ("again" : Str) = none ∧ sp [.ref tb, v] H Q E
def rN8 (B : Addr) (sp : Sp) : TGK.RW := fun ws H Q E => ∃ (tb dx : Addr) (fs : List (Str × V)) (v : V), ws = [some (.ref tb), some v] ∧ H tb = some (.ins B dx fs) ∧ fs.lookup ("left" : Str) = none ∧ sp [.ref tb, v] H Q E
def rN9 (B : Addr) (sp : Sp) : TGK.RW := fun ws H Q E => ∃ (tb dx : Addr) (fs : List (Str × V)) (v : V), ws = [some (.ref tb), some v] ∧ H tb = some (.ins B dx fs) ∧ fs.lookup ("right" : Str) = none ∧ sp [.ref tb, v] H Q E
def rN10 (B : Addr) (sp : Sp) : TGK.RW := fun ws H Q E => ∃ (tb dx : Addr) (fs : List (Str × V)) (v : V), ws = [some (.ref tb), some v] ∧ H tb = some (.ins B dx fs) ∧ fs.lookup ("at" : Str) = none ∧ sp [.ref tb, v] H Q E
def rN11 (B : Addr) (sp : Sp) : TGK.RW := fun ws H Q E => ∃ (tb dx : Addr) (fs : List (Str × V)) (h v : V), ws = [some (.ref tb), some h, some v] ∧ H tb = some (.ins B dx fs) ∧ fs.lookup ("press" : Str) = none ∧ sp [.ref tb, h, v] H Q E
def rN12 (B : Addr) (sp : Sp) : TGK.RW := fun ws H Q E => ∃ (tb dx : Addr) (fs : List (Str × V)) (h v : V), ws = [some (.ref tb), some h, some v] ∧ H tb = some (.ins B dx fs) ∧ fs.lookup ("press" : Str) = none ∧ sp [.ref tb, h, v] H Q E
section
variable {P : Program} {w : World} {K : PySem.W.Frag} {mg : Str → Option Value} {base : Heap} {cs : List (Addr × Addr)} {B : Addr}
theorem lok_a1 {k : Nat} {q : Str} {c' f g : Addr} {fdg : FuncData} {lc : List (Str × Addr)} {sp : Sp} (M : Mk K B g) (G : FnOk P w K mg base (L2.CX P w) k g fdg ["self", "page", "style", "hands"] sp) (bd : Binds K fdg ["self", "page", "style", "hands"] []) (mT : mg "Table" = some (.ref B)) :
    LamW P w K mg base (k + 2) f (HfL f ⟨"<lambda>", q, la1.1, [], la1.2.2, lc, c'⟩ la1.2.1) (TGK.spLamR frA (rMk3 B sp) ⟨"<lambda>", q, la1.1, [], la1.2.2, lc, c'⟩) := by
  refine lamw_l (lokx_of (N := frA) (fr := frA) sc_a1 (fun pm ctv => rfl) fun A outer s H Q E hr h => ?_)
  obtain ⟨_, ws, cl, hC, h⟩ := h
  obtain ⟨p, s, h, rfl, hsp⟩ := h
  refine ⟨_, cl, _, hC, pe_make M G hr (by rfl) mT bd .nil (passes_call (takes_of rfl rfl rfl rfl) (fun _ _ _ _ h => h)) (pa_cons (pv 0) (pa_cons (pv 1) (pa_cons (pv 2) pa_nil))), ?_⟩
  exact ⟨_, rfl, _, rfl, _, rfl, hsp⟩
theorem lok_a2 {k : Nat} {q : Str} {c' f g : Addr} {fdg : FuncData} {lc : List (Str × Addr)} {sp : Sp} (M : Mk K B g) (G : FnOk P w K mg base (L2.CX P w) k g fdg ["self", "page", "style", "hands"] sp) (bd : Binds K fdg ["self", "page", "style", "hands"] []) (mT : mg "Table" = some (.ref B)) :
    LamW P w K mg base (k + 2) f (HfL f ⟨"<lambda>", q, la2.1, [], la2.2.2, lc, c'⟩ la2.2.1) (TGK.spLamR frB (rMk2 B sp) ⟨"<lambda>", q, la2.1, [], la2.2.2, lc, c'⟩) := by
  refine lamw_l (lokx_of (N := frB) (fr := frB) sc_a2 (fun pm ctv => rfl) fun A outer s H Q E hr h => ?_)
  obtain ⟨_, ws, cl, hC, h⟩ := h
  obtain ⟨p, h, rfl, hsp⟩ := h
  refine ⟨_, cl, _, hC, pe_make M G hr (by rfl) mT bd .nil (passes_call (takes_of rfl rfl rfl rfl) (fun _ _ _ _ h => h)) (pa_cons (pv 0) (pa_cons pe_non (pa_cons (pv 1) pa_nil))), ?_⟩
  exact ⟨_, rfl, _, rfl, hsp⟩
theorem lok_a3 {k : Nat} {q : Str} {c' f g : Addr} {fdg : FuncData} {lc : List (Str × Addr)} {sp : Sp} (X : Cls K B) (M : Meth K B "rub" g) (G : FnOk P w K mg base (L2.CX P w) k g fdg ["self", "hand"] sp) (bd : Binds K fdg ["self", "hand"] []) :
    LamW P w K mg base (k + 1) f (HfL f ⟨"<lambda>", q, la3.1, [], la3.2.2, lc, c'⟩ la3.2.1) (TGK.spLamR frC (rN3 B sp) ⟨"<lambda>", q, la3.1, [], la3.2.2, lc, c'⟩) := by
  refine lamw_l (lokx_of (N := frC) (fr := frC) sc_a3 (fun pm ctv => rfl) fun A outer s H Q E hr h => ?_)
  obtain ⟨_, ws, cl, hC, tb, dx, fs, h, rfl, hob, l1, hsp⟩ := h
  refine ⟨_, cl, _, hC, pe_methS (pv 0) X M G hr bd (fun σ => passAt (takes_of rfl rfl rfl rfl) σ) (pa_cons (pe_op op_sub (pv 1) pe_int) pa_nil), ?_⟩
  exact ⟨_, rfl, tb, dx, fs, rfl, hob, l1, _, rfl, _, _, rfl, rfl, hsp⟩
theorem lok_a4 {k : Nat} {q : Str} {c' f g : Addr} {fdg : FuncData} {lc : List (Str × Addr)} {sp : Sp} (X : Cls K B) (M : Meth K B "press" g) (G : FnOk P w K mg base (L2.CX P w) k g fdg ["self", "hand", "sign"] sp) (bd : Binds K fdg ["self", "hand", "sign"] []) :
    LamW P w K mg base (k + 1) f (HfL f ⟨"<lambda>", q, la4.1, [], la4.2.2, lc, c'⟩ la4.2.1) (TGK.spLamR frN (rN4 B sp) ⟨"<lambda>", q, la4.1, [], la4.2.2, lc, c'⟩) := by
  refine lamw_l (lokx_of (N := frN) (fr := frN) sc_a4 (fun pm ctv => rfl) fun A outer s H Q E hr h => ?_)
  obtain ⟨_, ws, cl, hC, tb, dx, fs, v, rfl, hob, l1, hsp⟩ := h
  refine ⟨_, cl, _, hC, pe_methS (pv 0) X M G hr bd (fun σ => passAt (takes_of rfl rfl rfl rfl) σ) (pa_cons (pv 1) (pa_cons pe_str pa_nil)), ?_⟩
  exact ⟨_, rfl, tb, dx, fs, rfl, hob, l1, _, rfl, hsp⟩
theorem lok_a5 {k : Nat} {q : Str} {c' f g t : Addr} {fdg : FuncData} {lc : List (Str × Addr)} {v : V} {sp : Sp} (X : Cls K B) (M : Meth K B "rub" g) (G : FnOk P w K mg base (L2.CX P w) k g fdg ["self", "hand"] sp) (bd : Binds K fdg ["self", "hand"] []) :
    LamW P w K mg base (k + 1) f (HfD f ⟨"<lambda>", q, la5.1, [], la5.2.2, lc, c'⟩ la5.2.1 t v) (TGK.spLamR frN (rN5 B sp) ⟨"<lambda>", q, la5.1, [], la5.2.2, lc, c'⟩) := by
  refine lamw_d (N := ["_law_a", "_law_table", "_law_none"]) (fr := frN) (nm := "_law_a") sc_a5 rfl rfl rfl rfl rfl key_a5 fun A outer s H Q E hr h => ?_
  obtain ⟨_, ws, cl, hC, tb, dx, fs, v, rfl, hob, l1, hsp⟩ := h
  refine ⟨_, cl, _, hC, pe_methS (pv 1) X M G hr bd (fun σ => passAt (takes_of rfl rfl rfl rfl) σ) (pa_cons (pv 2) pa_nil), ?_⟩
  exact ⟨_, rfl, tb, dx, fs, rfl, hob, l1, _, rfl, hsp⟩
theorem lok_a6 {k : Nat} {q : Str} {c' f g t : Addr} {fdg : FuncData} {lc : List (Str × Addr)} {v : V} {sp : Sp} (X : Cls K B) (M : Meth K B "back" g) (G : FnOk P w K mg base (L2.CX P w) k g fdg ["self", "hand"] sp) (bd : Binds K fdg ["self", "hand"] []) :
    LamW P w K mg base (k + 1) f (HfD f ⟨"<lambda>", q, la6.1, [], la6.2.2, lc, c'⟩ la6.2.1 t v) (TGK.spLamR frN (rN6 B sp) ⟨"<lambda>", q, la6.1, [], la6.2.2, lc, c'⟩) := by
  refine lamw_d (N := ["_law_b", "_law_table", "_law_none"]) (fr := frN) (nm := "_law_b") sc_a6 rfl rfl rfl rfl rfl key_a6 fun A outer s H Q E hr h => ?_
  obtain ⟨_, ws, cl, hC, tb, dx, fs, v, rfl, hob, l1, hsp⟩ := h
  refine ⟨_, cl, _, hC, pe_methS (pv 1) X M G hr bd (fun σ => passAt (takes_of rfl rfl rfl rfl) σ) (pa_cons (pv 2) pa_nil), ?_⟩
  exact ⟨_, rfl, tb, dx, fs, rfl, hob, l1, _, rfl, hsp⟩
theorem lok_a7 {k : Nat} {q : Str} {c' f g t : Addr} {fdg : FuncData} {lc : List (Str × Addr)} {v : V} {sp : Sp} (X : Cls K B) (M : Meth K B "again" g) (G : FnOk P w K mg base (L2.CX P w) k g fdg ["self", "hand"] sp) (bd : Binds K fdg ["self", "hand"] []) :
    LamW P w K mg base (k + 1) f (HfD f ⟨"<lambda>", q, la7.1, [], la7.2.2, lc, c'⟩ la7.2.1 t v) (TGK.spLamR frN (rN7 B sp) ⟨"<lambda>", q, la7.1, [], la7.2.2, lc, c'⟩) := by
  refine lamw_d (N := ["_law_c", "_law_table", "_law_none"]) (fr := frN) (nm := "_law_c") sc_a7 rfl rfl rfl rfl rfl key_a7 fun A outer s H Q E hr h => ?_
  obtain ⟨_, ws, cl, hC, tb, dx, fs, v, rfl, hob, l1, hsp⟩ := h
  refine ⟨_, cl, _, hC, pe_methS (pv 1) X M G hr bd (fun σ => passAt (takes_of rfl rfl rfl rfl) σ) (pa_cons (pv 2) pa_nil), ?_⟩
  exact ⟨_, rfl, tb, dx, fs, rfl, hob, l1, _, rfl, hsp⟩
theorem lok_a8 {k : Nat} {q : Str} {c' f g t : Addr} {fdg : FuncData} {lc : List (Str × Addr)} {v : V} {sp : Sp} (X : Cls K B) (M : Meth K B "left" g) (G : FnOk P w K mg base (L2.CX P w) k g fdg ["self", "hand"] sp) (bd : Binds K fdg ["self", "hand"] []) :
    LamW P w K mg base (k + 1) f (HfD f ⟨"<lambda>", q, la8.1, [], la8.2.2, lc, c'⟩ la8.2.1 t v) (TGK.spLamR frN (rN8 B sp) ⟨"<lambda>", q, la8.1, [], la8.2.2, lc, c'⟩) := by
  refine lamw_d (N := ["_law_d", "_law_table", "_law_none"]) (fr := frN) (nm := "_law_d") sc_a8 rfl rfl rfl rfl rfl key_a8 fun A outer s H Q E hr h => ?_
  obtain ⟨_, ws, cl, hC, tb, dx, fs, v, rfl, hob, l1, hsp⟩ := h
  refine ⟨_, cl, _, hC, pe_methS (pv 1) X M G hr bd (fun σ => passAt (takes_of rfl rfl rfl rfl) σ) (pa_cons (pv 2) pa_nil), ?_⟩
  exact ⟨_, rfl, tb, dx, fs, rfl, hob, l1, _, rfl, hsp⟩
theorem lok_a9 {k : Nat} {q : Str} {c' f g t : Addr} {fdg : FuncData} {lc : List (Str × Addr)} {v : V} {sp : Sp} (X : Cls K B) (M : Meth K B "right" g) (G : FnOk P w K mg base (L2.CX P w) k g fdg ["self", "hand"] sp) (bd : Binds K fdg ["self", "hand"] []) :
    LamW P w K mg base (k + 1) f (HfD f ⟨"<lambda>", q, la9.1, [], la9.2.2, lc, c'⟩ la9.2.1 t v) (TGK.spLamR frN (rN9 B sp) ⟨"<lambda>", q, la9.1, [], la9.2.2, lc, c'⟩) := by
  refine lamw_d (N := ["_law_f", "_law_table", "_law_none"]) (fr := frN) (nm := "_law_f") sc_a9 rfl rfl rfl rfl rfl key_a9 fun A outer s H Q E hr h => ?_
  obtain ⟨_, ws, cl, hC, tb, dx, fs, v, rfl, hob, l1, hsp⟩ := h
  refine ⟨_, cl, _, hC, pe_methS (pv 1) X M G hr bd (fun σ => passAt (takes_of rfl rfl rfl rfl) σ) (pa_cons (pv 2) pa_nil), ?_⟩
  exact ⟨_, rfl, tb, dx, fs, rfl, hob, l1, _, rfl, hsp⟩
theorem lok_a10 {k : Nat} {q : Str} {c' f g t : Addr} {fdg : FuncData} {lc : List (Str × Addr)} {v : V} {sp : Sp} (X : Cls K B) (M : Meth K B "at" g) (G : FnOk P w K mg base (L2.CX P w) k g fdg ["self", "hand"] sp) (bd : Binds K fdg ["self", "hand"] []) :
    LamW P w K mg base (k + 1) f (HfD f ⟨"<lambda>", q, la10.1, [], la10.2.2, lc, c'⟩ la10.2.1 t v) (TGK.spLamR frN (rN10 B sp) ⟨"<lambda>", q, la10.1, [], la10.2.2, lc, c'⟩) := by
  refine lamw_d (N := ["_law_g", "_law_table", "_law_none"]) (fr := frN) (nm := "_law_g") sc_a10 rfl rfl rfl rfl rfl key_a10 fun A outer s H Q E hr h => ?_
  obtain ⟨_, ws, cl, hC, tb, dx, fs, v, rfl, hob, l1, hsp⟩ := h
  refine ⟨_, cl, _, hC, pe_methS (pv 1) X M G hr bd (fun σ => passAt (takes_of rfl rfl rfl rfl) σ) (pa_cons (pv 2) pa_nil), ?_⟩
  exact ⟨_, rfl, tb, dx, fs, rfl, hob, l1, _, rfl, hsp⟩
theorem lok_a11 {k : Nat} {q : Str} {c' f g : Addr} {fdg : FuncData} {lc : List (Str × Addr)} {sp : Sp} (X : Cls K B) (M : Meth K B "press" g) (G : FnOk P w K mg base (L2.CX P w) k g fdg ["self", "hand", "sign"] sp) (bd : Binds K fdg ["self", "hand", "sign"] []) :
    LamW P w K mg base (k + 1) f (HfL f ⟨"<lambda>", q, la11.1, [], la11.2.2, lc, c'⟩ la11.2.1) (TGK.spLamR frS (rN11 B sp) ⟨"<lambda>", q, la11.1, [], la11.2.2, lc, c'⟩) := by
  refine lamw_l (lokx_of (N := frS) (fr := frS) sc_a11 (fun pm ctv => rfl) fun A outer s H Q E hr h => ?_)
  obtain ⟨_, ws, cl, hC, tb, dx, fs, h, v, rfl, hob, l1, hsp⟩ := h
  refine ⟨_, cl, _, hC, pe_methS (pv 0) X M G hr bd (fun σ => passAt (takes_of rfl rfl rfl rfl) σ) (pa_cons (pv 1) (pa_cons (pv 2) pa_nil)), ?_⟩
  exact ⟨_, rfl, tb, dx, fs, rfl, hob, l1, _, rfl, _, rfl, hsp⟩
theorem lok_a12 {k : Nat} {q : Str} {c' f g : Addr} {fdg : FuncData} {lc : List (Str × Addr)} {sp : Sp} (X : Cls K B) (M : Meth K B "press" g) (G : FnOk P w K mg base (L2.CX P w) k g fdg ["self", "hand", "sign"] sp) (bd : Binds K fdg ["self", "hand", "sign"] []) :
    LamW P w K mg base (k + 1) f (HfL f ⟨"<lambda>", q, la12.1, [], la12.2.2, lc, c'⟩ la12.2.1) (TGK.spLamR frG (rN12 B sp) ⟨"<lambda>", q, la12.1, [], la12.2.2, lc, c'⟩) := by
  refine lamw_l (lokx_of (N := frG) (fr := frG) sc_a12 (fun pm ctv => rfl) fun A outer s H Q E hr h => ?_)
  obtain ⟨_, ws, cl, hC, tb, dx, fs, h, v, rfl, hob, l1, hsp⟩ := h
  refine ⟨_, cl, _, hC, pe_methS (pv 0) X M G hr bd (fun σ => passAt (takes_of rfl rfl rfl rfl) σ) (pa_cons (pv 1) (pa_cons (pv 2) pa_nil)), ?_⟩
  exact ⟨_, rfl, tb, dx, fs, rfl, hob, l1, _, rfl, _, rfl, hsp⟩
end
/-! ### before there is a table -/
structure Sit0 (K : PySem.W.Frag) (cs : List (Addr × Addr)) (p1 p2 b l pg st : Addr) (as : List Addr) (rows : List (List Str)) (gap least : Int) (H : Hp) : Prop where
  box : BoxAt H b l
  tab : Tabs cs H
  l1 : LamX.TabS H p1 q1S
  l2 : LamX.TabS H p2 q2S
  pgs : H pg = some (.lst (as.map V.ref))
  row : TGK.RowsAt K H as rows
  sty : StyleAt K H st gap least
  npg : pg ≠ b ∧ pg ≠ l
theorem sqT_ext {K : PySem.W.Frag} {H H' : Hp} {t : Addr} {xs : List V} (x : LamX.ExtN H H') (h : SqT K H t xs) : SqT K H' t xs := by
  rcases h with (h | ⟨u, h⟩) | h
  · exact .inl (.inl (x _ _ h fun ps z => by cases z))
  · exact .inl (.inr ⟨u, x _ _ h fun ps z => by cases z⟩)
  · exact .inr h
section
variable {K : PySem.W.Frag} {cs : List (Addr × Addr)} {B p1 p2 b l pg st tb : Addr} {as : List Addr} {rows : List (List Str)} {gap least : Int} {a : TA} {H H' : Hp}
theorem Sit0.gw (o : Sit0 K cs p1 p2 b l pg st as rows gap least H) (x : LamX.ExtN H H') (t : Tabs cs H') (t1 : LamX.TabS H' p1 q1S) (t2 : LamX.TabS H' p2 q2S) : Sit0 K cs p1 p2 b l pg st as rows gap least H' :=
  ⟨box_ext o.box x, t, t1, t2, x _ _ o.pgs fun ps z => (nomatch z), ⟨o.row.len, fun i p r e1 e2 => sqT_ext x (o.row.row i p r e1 e2)⟩, ⟨sqT_ext x o.sty.tup, o.sty.g0, o.sty.g1, o.sty.l0, o.sty.l1⟩, o.npg⟩
theorem Sit0.ex (o : Sit0 K cs p1 p2 b l pg st as rows gap least H) (n1 : ApartT cs p1) (n2 : ApartT cs p2) (x : Ex cs H H') : Sit0 K cs p1 p2 b l pg st as rows gap least H' := by
  have mF : Mob H (fun _ => False) := fun c z => z.elim
  exact o.gw x.ext x.tab (tabS_kn (kn_ex x) mF n1 o.l1) (tabS_kn (kn_ex x) mF n2 o.l2)
theorem Sit0.lam2 (o : Sit0 K cs p1 p2 b l pg st as rows gap least H) (n2 : ApartT cs p2) (n : p2 ≠ p1) (m : Lm p2 H H') (t : LamX.TabS H' p2 q2S) : Sit0 K cs p1 p2 b l pg st as rows gap least H' := o.gw (m.ext o.l2) (m.tabs n2 o.tab) (tabS_lm m n.symm o.l2 o.l1) t
theorem Sit0.draw (o : Sit0 K cs p1 p2 b l pg st as rows gap least H) (n1 : ApartT cs p1) (n2 : ApartT cs p2) (x : KB b l H H') (hB : BoxAt H' b l) : Sit0 K cs p1 p2 b l pg st as rows gap least H' := by
  have y : KN cs (fun c => c = b ∨ c = l) H H' := fun c o h _ n => x c o h (fun z => n (.inl z)) fun z => n (.inr z)
  have m : Mob H (fun c => c = b ∨ c = l) := by
    obtain ⟨ns, s1, e1, e2, _⟩ := id o.box
    exact fun c z => .inl (z.elim (fun e => e ▸ ⟨_, e1⟩) fun e => e ▸ ⟨_, e2⟩)
  exact ⟨hB, tabs_kb o.tab o.box x, tabS_kn y m n1 o.l1, tabS_kn y m n2 o.l2, x _ _ o.pgs o.npg.1 o.npg.2, ⟨o.row.len, fun i p r e1 e2 => sqT_km y.w m (o.row.row i p r e1 e2)⟩, ⟨sqT_km y.w m o.sty.tup, o.sty.g0, o.sty.g1, o.sty.l0, o.sty.l1⟩, o.npg⟩
theorem Sit0.page (o : Sit0 K cs p1 p2 b l pg st as rows gap least H) : PageAt K H pg as rows := ⟨SqL.of o.pgs, o.row.len, o.row.row⟩
/-- the table is made -/
theorem Sit0.made (o : Sit0 K cs p1 p2 b l pg st as rows gap least H) {S : TSt} (n1 : ApartT cs p1) (n2 : ApartT cs p2) {dx : Addr} {fs : List (Str × V)} (hob : H tb = some (.ins B dx fs)) (es : a.st = st) (kp : ∀ c o, H c = some o → NT cs c o → c ≠ tb → H' c = some o) (ow : ∀ c, ownT tb a c → c = tb ∨ H c = none) (t : Tabs cs H') (td : TabD B H' tb a S) : SitT K cs B p1 p2 b l st tb gap least a S H' := by
  have kn : KN cs (fun c => c = tb) H H' := fun c u h n q => kp c u h n q
  have m : Mob H (fun c => c = tb) := fun c hc => .inr ⟨_, _, _, hc ▸ hob⟩
  obtain ⟨ns, s1, e1, e2, e3⟩ := id o.box
  have nb : b ≠ tb := fun e => by rw [← e, e1] at hob; cases hob
  have nl : l ≠ tb := fun e => by rw [← e, e2] at hob; cases hob
  refine ⟨⟨ns, s1, kn.w _ _ e1 (fun ps z => (nomatch z)) nb, kn.w _ _ e2 (fun ps z => (nomatch z)) nl, e3⟩, t, tabS_kn kn m n1 o.l1, tabS_kn kn m n2 o.l2, ⟨sqT_km kn.w m o.sty.tup, o.sty.g0, o.sty.g1, o.sty.l0, o.sty.l1⟩, td, es, fun c hc => ?_⟩
  rcases ow c hc with h | h
  · rw [h]
    rintro (e | e)
    · exact nb e.symm
    · exact nl e.symm
  · rintro (e | e)
    · rw [e, e1] at h; cases h
    · rw [e, e2] at h; cases h
/-- a lambda that was made -/
def HfA (cells : List (Str × Addr)) (f : Addr) (lam : TGK.LamT) (H : Hp) : Bool → Prop
  | false => ∃ c, HfL f ⟨"<lambda>", q2S, lam.1, [], lam.2.2, cloFrom cells lam.2.2.names [], c⟩ lam.2.1 H
  | true => ∃ c t, HfD f ⟨"<lambda>", q2S, lam.1, [], lam.2.2, cloFrom cells lam.2.2.names [], c⟩ lam.2.1 t (.int 0) H
theorem HfA.lx {cells : List (Str × Addr)} {f : Addr} {lam : TGK.LamT} (x : LamX.ExtN H H') : ∀ {d : Bool}, HfA cells f lam H d → HfA cells f lam H' d
  | false, ⟨c, h⟩ => ⟨c, x _ _ h.1 fnL_ne, x _ _ h.2 LamX.codeO_ne⟩
  | true, ⟨c, t, h⟩ => ⟨c, t, x _ _ h.1 fnD_ne, x _ _ h.2.1 LamX.codeO_ne, x _ _ h.2.2 fun ps z => nomatch z⟩
def Wrks (cells : List (Str × Addr)) (H : Hp) (ws : List (Addr × TGK.LamT × Bool)) : Prop := ∀ p ∈ ws, HfA cells p.1 p.2.1 H p.2.2
theorem Wrks.lx {cells : List (Str × Addr)} {ws : List (Addr × TGK.LamT × Bool)} (w : Wrks cells H ws) (x : LamX.ExtN H H') : Wrks cells H' ws := fun p hp => (w p hp).lx x
theorem Wrks.cons {cells : List (Str × Addr)} {ws : List (Addr × TGK.LamT × Bool)} {f : Addr} {lam : TGK.LamT} {d : Bool} (w : Wrks cells H ws) (h : HfA cells f lam H d) : Wrks cells H ((f, lam, d) :: ws) := fun p hp => by
  rcases List.mem_cons.mp hp with rfl | q
  · exact h
  · exact w p q
end
/-! ### what may be no number of hands, no hand, no mark -/
theorem odd_no {far : Int} (h : 0 ≤ far) : ∀ v ∈ ([.int 0, .int (5 + far), .int (-1 - far), .non, .bl true, .str "1"] : List V), NoWh 1 4 v := fun v hv => by
  simp only [List.mem_cons, List.not_mem_nil, or_false] at hv
  rcases hv with e | e | e | e | e | e <;> rw [e]
  · exact .inl ⟨_, rfl, by omega⟩
  · exact .inl ⟨_, rfl, by omega⟩
  · exact .inl ⟨_, rfl, by omega⟩
  · exact .inr (.inl rfl)
  · exact .inr (.inr (.inl ⟨_, rfl⟩))
  · exact .inr (.inr (.inr ⟨_, rfl⟩))
theorem none_no {S : TSt} {n : Nat} {far : Int} (h : 0 ≤ far) (e : S.spots.length = n) : ∀ v ∈ ([.int ((n : Nat) + far), .int (-1 - far), .non, .str "0"] : List V), NoHd S v := fun v hv => by
  simp only [List.mem_cons, List.not_mem_nil, or_false] at hv
  rcases hv with e | e | e | e <;> rw [e]
  · exact .inl ⟨_, rfl, by omega⟩
  · exact .inl ⟨_, rfl, by omega⟩
  · exact .inr (.inl rfl)
  · exact .inr (.inr (.inr ⟨_, rfl⟩))
theorem bad_str {K : PySem.W.Frag} {H : Hp} {z : Str} (h1 : z ≠ tabS) (h2 : z ≠ lineS) (h3 : z.length ≠ 1) (h4 : z.length ≤ 1000) (h5 : PyData.strOk z = true) : BadMk K H (.str z) := .inr ⟨z, rfl, h1, h2, h3, h4, h5⟩
theorem sign_no {K : PySem.W.Frag} {H : Hp} {t : Addr} (h : H t = some (.tup [.str "a"])) : ∀ v ∈ ([.str "", .str "ab", .non, .int 5, .str "\t\t", .ref t, .str "\n\n"] : List V), BadMk K H v := fun v hv => by
  simp only [List.mem_cons, List.not_mem_nil, or_false] at hv
  rcases hv with e | e | e | e | e | e | e <;> rw [e]
  · exact bad_str (by decide +kernel) (by decide +kernel) (by decide +kernel) (by decide +kernel) (by decide +kernel)
  · exact bad_str (by decide +kernel) (by decide +kernel) (by decide +kernel) (by decide +kernel) (by decide +kernel)
  · exact .inl ⟨.inl rfl, .none, .non, rfl, fun z => rfl⟩
  · exact .inl ⟨.inr (.inl ⟨5, rfl⟩), .int 5, .int _, rfl, fun z => rfl⟩
  · exact bad_str (by decide +kernel) (by decide +kernel) (by decide +kernel) (by decide +kernel) (by decide +kernel)
  · exact .inl ⟨.inr (.inr (.inr (.inl ⟨t, _, rfl, SqT.of h⟩))), .tuple [.str "a"], .tup (SqT.of h) (.cons (.str _) .nil), by decide +kernel, fun z => rfl⟩
  · exact bad_str (by decide +kernel) (by decide +kernel) (by decide +kernel) (by decide +kernel) (by decide +kernel)
end TG

namespace TG
open PySem PySem.Spec PyProof.Rows L2 NdefX GenW Gx Lv Dl
/-! ### what is shown is alike to itself -/
theorem strOk_mark {z : Str} (h : MarkOk z) : PyData.strOk z = true := by
  unfold PyData.strOk
  rw [← Array.all_toList, List.all_eq_true]
  intro c hc
  have := h.sg c hc
  unfold SgOk at this
  exact decide_eq_true (by omega)
theorem canAll_of {l : List PyData} (h : ∀ d ∈ l, PyData.canLay0 d = true) : PyData.canLayAll0 l = true := by
  induction l with
  | nil => rfl
  | cons d l ih =>
    simp only [PyData.canLayAll0, Bool.and_eq_true]
    exact ⟨h d List.mem_cons_self, ih fun x hx => h x (List.mem_cons_of_mem _ hx)⟩
theorem can_told (f : Nat → List Int) (n : Nat) : PyData.canLay0 (toldD f n) = true := by
  unfold toldD
  simp only [PyData.canLay0]
  refine canAll_of fun d hd => ?_
  obtain ⟨i, _, rfl⟩ := List.mem_map.mp hd
  simp only [PyData.canLay0]
  exact canAll_ints _
theorem shaped_shown {S : TSt} {gap least : Int} {n : Nat} (h : PgOk (rowsT (txt S))) (hd : ∀ d ∈ S.deeds, MarkOk d.2.1) : SeqAt.shaped (shownD S gap least n) = true ∧ PyData.eqv (shownD S gap least n) (shownD S gap least n) = true := by
  have h1 := can_rows h
  have h2 := can_told (begsR (rowsT (txt S)) gap least) (rowsT (txt S)).length
  have h3 : PyData.canLay0 (.list (S.deeds.map deedD)) = true := by
    simp only [PyData.canLay0]
    refine canAll_of fun d hd' => ?_
    obtain ⟨e, he, rfl⟩ := List.mem_map.mp hd'
    have := strOk_mark (hd e he)
    simp [deedD, PyData.canLay0, PyData.canLayAll0, this]
  have h4 : PyData.canLay0 (.list (((List.range n).map fun h => atR S h).map placeD)) = true := by
    simp only [PyData.canLay0]
    refine canAll_of fun d hd' => ?_
    obtain ⟨e, he, rfl⟩ := List.mem_map.mp hd'
    simp [placeD, PyData.canLay0, PyData.canLayAll0]
  have d1 : PyData.depth (.list (rowsD (rowsT (txt S)))) ≤ 2 := by
    have := depthAll_rows (rowsT (txt S))
    simp only [PyData.depth]
    omega
  have d2 := depth_told (begsR (rowsT (txt S)) gap least) (rowsT (txt S)).length
  have d3 : PyData.depth (.list (S.deeds.map deedD)) ≤ 2 := by
    simp only [PyData.depth]
    refine Nat.succ_le_succ (depthAll_of fun d hd' => ?_)
    obtain ⟨e, he, rfl⟩ := List.mem_map.mp hd'
    exact Nat.le_refl 1
  have d4 : PyData.depth (.list (((List.range n).map fun h => atR S h).map placeD)) ≤ 2 := by
    simp only [PyData.depth]
    refine Nat.succ_le_succ (depthAll_of fun d hd' => ?_)
    obtain ⟨e, he, rfl⟩ := List.mem_map.mp hd'
    exact Nat.le_refl 1
  have c : PyData.canLay0 (shownD S gap least n) = true := by
    unfold shownD
    generalize PyData.list (rowsD (rowsT (txt S))) = a1 at h1
    generalize toldD (begsR (rowsT (txt S)) gap least) (rowsT (txt S)).length = a2 at h2
    generalize PyData.list (S.deeds.map deedD) = a3 at h3
    generalize PyData.list (((List.range n).map fun h => atR S h).map placeD) = a4 at h4
    simp only [PyData.canLay0, PyData.canLayAll0, h1, h2, h3, h4, Bool.and_self]
  have d : PyData.depth (shownD S gap least n) ≤ 64 := by
    unfold shownD
    generalize PyData.list (rowsD (rowsT (txt S))) = a1 at d1
    generalize toldD (begsR (rowsT (txt S)) gap least) (rowsT (txt S)).length = a2 at d2
    generalize PyData.list (S.deeds.map deedD) = a3 at d3
    generalize PyData.list (((List.range n).map fun h => atR S h).map placeD) = a4 at d4
    simp only [PyData.depth, PyData.depthAll]
    omega
  refine ⟨?_, SeqAt.eqv_refl _ c⟩
  unfold SeqAt.shaped
  rw [c, decide_eq_true d]
  rfl
theorem shaped_page {rows : List (List Str)} (h : PgOk rows) : SeqAt.shaped (.list (rowsD rows)) = true ∧ PyData.eqv (.list (rowsD rows)) (.list (rowsD rows)) = true := by
  have c := can_rows h
  have d := depthAll_rows rows
  refine ⟨?_, SeqAt.eqv_refl _ c⟩
  unfold SeqAt.shaped
  rw [c]
  simp only [PyData.depth, Bool.true_and]
  exact decide_eq_true (by omega)
/-! ### at the start no mark stands before a hand -/
theorem start_near {z : Str} {n h : Nat} (tz : TxtSg z) (lz : z.length ≤ 2100) (n4 : n ≤ 4) (hh : h < n) : nearR (startR z n) h (-1) = none := by
  obtain ⟨t, _⟩ := start_all tz lz n4
  rw [t.near]
  have e : plc (startR z n) (List.range z.length) z.length h = 0 := by
    unfold plc
    have e1 : (startR z n).spots.getD h 0 = 0 := by
      show (List.replicate n 0).getD h 0 = 0
      rw [List.getD_eq_getElem?_getD, List.getElem?_replicate, if_pos hh]
      rfl
    rw [e1, ← List.range_succ]
    exact idx_unique List.nodup_range (by rw [List.mem_range]; omega) (by rw [List.getElem?_range (by omega)])
  rw [e, if_neg (by omega)]
/-! ### after a press of a good sign -/
structure Aft (S S2 : TSt) (n0 h n : Nat) : Prop where
  tok : TOk S2
  tx : TG.txt S2 = TG.txt S
  hh : h < S2.spots.length
  set : ∀ k ∈ S2.undone.getD h [], SetPre S2 S2.signs S2.order (turnR S2 k true)
  pg : ∀ k, (S2.undone.getD h []).getLast? = some k → PgOk (pageR S2.signs S2.order (turnR S2 k true))
  nx : ∃ O' : List Nat, AllP (againR S2 h).2 O' n0 ∧ PgOk (rowsT (TG.txt (againR S2 h).2)) ∧ (againR S2 h).2.spots.length = n ∧ (againR S2 h).2.deeds.length ≤ S.deeds.length + 1 ∧ (againR S2 h).2.signs.length ≤ S.signs.length + 1 ∧ ∀ d ∈ (againR S2 h).2.deeds, MarkOk d.2.1
section
variable {S S2 : TSt} {O : List Nat} {n0 h n : Nat} {s : Str}
theorem AllP.und (t : AllP S O n0) : S.undone.getD h [] = [] := by
  rw [List.getD_eq_getElem?_getD]
  cases e : S.undone[h]? with
  | none => rfl
  | some l => exact t.un l (List.mem_of_getElem? e)
theorem Aft.same (t : AllP S O n0) (hh : h < S.spots.length) (hn : S.spots.length = n) (hP : PgOk (rowsT (TG.txt S))) (hd : ∀ d ∈ S.deeds, MarkOk d.2.1) : Aft S S n0 h n := by
  have u := t.und (h := h)
  have e := t.again0 (h := h)
  refine ⟨t.tok, rfl, hh, fun k hk => (by rw [u] at hk; cases hk), fun k hk => (by rw [u] at hk; cases hk), O, ?_⟩
  rw [e]
  exact ⟨t, hP, hn, Nat.le_succ _, Nat.le_succ _, hd⟩
theorem Aft.off (o : OffP S S2 O n0 h s) (t : AllP S O n0) (hh : h < S.spots.length) (hn : S.spots.length = n) (hs : MarkOk s) (l1 : S.signs.length ≤ 3900) (l2 : S.deeds.length ≤ 900) (hP : PgOk (rowsT (insT S O n0 h s))) (hd : ∀ d ∈ S.deeds, MarkOk d.2.1) : Aft S S2 n0 h n := by
  have u : S2.undone.getD h [] = [S.deeds.length] := o.un.2.2.1
  obtain ⟨_, g1, g2, g3, g4, g5⟩ := o.again t hh hs l1 l2
  refine ⟨o.tok t hs l1 l2, o.txt t hs l1 l2, by rw [o.sp]; exact hh, fun k _ => o.setT t hs l1 l2 k true, fun k hk => ?_, _, g1, by rw [g2]; exact hP, g3.trans hn, by omega, by omega, fun d hd' => ?_⟩
  · rw [u] at hk
    have hk : some S.deeds.length = some k := hk
    cases hk
    rw [o.pg t hh hs l1 l2]
    exact hP
  · have e : (againR S2 h).2.deeds = S.deeds ++ [((h, s, S.signs.length, true) : Deed)] := by
      have e2 : (S2.undone.getD h []).getLast? = some S.deeds.length := by rw [u]; rfl
      unfold againR
      rw [e2]
      exact turn_off true o.ds
    rw [e] at hd'
    rcases List.mem_append.mp hd' with q | q
    · exact hd d q
    · rw [List.mem_singleton] at q
      rw [q]
      exact hs
/-- its taking back -/
theorem AllP.backS (t : AllP S O n0) (hh : h < S.spots.length) (hs : MarkOk s) (l1 : S.signs.length ≤ 3900) (l2 : S.deeds.length ≤ 900) (k : Nat) : SetPre (pressR S h s) (pressR S h s).signs (pressR S h s).order (turnR (pressR S h s) k false) := by
  obtain ⟨a, _, _⟩ := t.press hh hs l1 l2
  exact a.m1.setT a.ord a.sp a.h4 k false
theorem AllP.backG (t : AllP S O n0) (hh : h < S.spots.length) (hs : MarkOk s) (l1 : S.signs.length ≤ 3900) (l2 : S.deeds.length ≤ 900) (hP : PgOk (rowsT (TG.txt S))) {k : Nat} (e : (stR (pressR S h s).deeds h (pressR S h s).deeds.length).getLast? = some k) : PgOk (pageR (pressR S h s).signs (pressR S h s).order (turnR (pressR S h s) k false)) := by
  have e2 : (stR (pressR S h s).deeds h (pressR S h s).deeds.length).getLast? = some S.deeds.length := t.stand (h := h) hs
  rw [e] at e2
  cases e2
  have e3 : turnR (pressR S h s) S.deeds.length false = S.deeds ++ [((h, s, S.signs.length, false) : Deed)] := turn_off (S1 := pressR S h s) (ds := S.deeds) (h := h) (N := S.signs.length) (s := s) (b := true) false rfl
  rw [e3]
  show PgOk (pageR (S.signs ++ [s]) (ordP S h) _)
  rw [t.order hh, t.pgOff hs l1 l2]
  exact hP
end
/-! ### small things of the law -/
theorem tabs_addC {cs : List (Addr × Addr)} {H : Hp} {cl : List (Addr × Obj)} (t : Tabs cs H) (un : ∀ c o, cl.lookup c = some o → H c = none) : Tabs cs (addC H cl) := fun q hq => by
  obtain ⟨u, g1, g2⟩ := t q hq
  exact ⟨u, add_at un g1, g2⟩
theorem err_of {K : PySem.W.Frag} {H : Hp} {C : Addr} {j : Nat} (lt : j < 11) (fl : flE j = "") (e : C = He.ga K (nmE j)) : ErrAt K H j 0 (.ref C) none := ⟨lt, by rw [e], fun n => absurd fl n, fun _ => ⟨rfl, rfl⟩⟩
theorem same_mk {H : Hp} {x dx : Addr} {o o' : HO} (nx : H x = none) (ndx : H dx = none) : Same H (upd (upd H dx o) x o') := fun c u h => by rw [upd_ne (ne_of_none h nx), upd_ne (ne_of_none h ndx)]; exact h
theorem mob_some {H : Hp} {A : Addr → Prop} (m : Mob H A) {c : Addr} (h : A c) : H c ≠ none := fun e => by
  rcases m c h with ⟨us, g⟩ | ⟨_, _, _, g⟩ <;> rw [e] at g <;> cases g
theorem Wrks.nil {cells : List (Str × Addr)} {H : Hp} : Wrks cells H [] := fun p hp => nomatch hp
end TG

namespace TG
open PySem PySem.Spec PyProof.Rows L2 NdefX GenW Gx Lv Dl
section
variable {P : Program} {w : World} {K : PySem.W.Frag} {mg : Str → Option Value} {base : Heap} {cs : List (Addr × Addr)} {B C Cs Cc HH TM p1 p2 : Addr}
def spLaw (K : PySem.W.Frag) (cs : List (Addr × Addr)) (p1 p2 : Addr) : Sp := fun vs H Q _ => ∃ (a : Addr) (ns : List Int), vs = [.ref a] ∧ Tabs cs H ∧ LamX.TabS H p1 q1S ∧ LamX.TabS H p2 q2S ∧ SqL K H a (ns.map V.int) ∧ ns.length ≤ 63 ∧ ∀ H', Q (.bl true) H'
abbrev nmLaw : List Str := ["_law_script", "_law_box", "_law_way", "_law_far", "_law_works", "_law_turn", "_law_again", "_law_before", "_law_good", "_law_hand", "_law_hands", "_law_none", "_law_odd", "_law_page_here", "_law_sign_here", "_law_style_here", "_law_table"]
theorem sc_law : FnScope nmLaw ["_law_script"] (defScope s_law) := ⟨rfl, rfl, rfl, by decide +kernel, rfl, by decide +kernel, by decide +kernel⟩
theorem ok_law {f cd g1 g2 g3 g4 g5 g6 g7 gA gB gC gw gu gb gg gl gr ga gp : Addr} {fd fd1 fd2 fd3 fd4 fd5 fd6 fd7 fdA fdB fdC fdw fdu fdb fdg fdl fdr fda fdp : FuncData} (T : Txt mg) (X : TabC K B) (eCs : Cs = He.ga K (nmE 1)) (eCc : Cc = He.ga K (nmE 4)) (eC : C = He.ga K (nmE 3)) (eHH : HH = He.ga K (nmE 9)) (eTM : TM = He.ga K (nmE 10))
    (n1 : ApartT cs p1) (n2 : ApartT cs p2) (np : p2 ≠ p1) (F : Fun K "law" "law" s_law f fd) (hcode : fd.code = .ref cd) (TB : LamX.TabB base mg cd p2)
    (G1 : FnOk P w K mg base CX0 1 g1 fd1 ["_law_script"] (spBegun K)) (k1 : PySem.W.keepIn K (.ref g1) = true) (b1 : Binds K fd1 ["_law_script"] []) (m1 : mg "_law_begun" = some (.ref g1))
    (G2 : FnOk P w K mg base CX0 1 g2 fd2 ["_law_box", "_law_many"] spTakeW) (k2 : PySem.W.keepIn K (.ref g2) = true) (b2 : Binds K fd2 ["_law_box", "_law_many"] []) (m2 : mg "_law_take" = some (.ref g2))
    (G3 : FnOk P w K mg base CX0 6 g3 fd3 ["_law_box", "_law_way"] (spFirstL K)) (k3 : PySem.W.keepIn K (.ref g3) = true) (b3 : Binds K fd3 ["_law_box", "_law_way"] []) (m3 : mg "_law_first" = some (.ref g3))
    (G4 : FnOk P w K mg base CX0 2 g4 fd4 ["_law_box"] spStyleD) (k4 : PySem.W.keepIn K (.ref g4) = true) (b4 : Binds K fd4 ["_law_box"] []) (m4 : mg "_law_style" = some (.ref g4))
    (G5 : FnOk P w K mg base CX0 2 g5 fd5 ["_law_box"] spSign) (k5 : PySem.W.keepIn K (.ref g5) = true) (b5 : Binds K fd5 ["_law_box"] []) (m5 : mg "_law_sign" = some (.ref g5))
    (G6 : FnOk P w K mg base CX0 16 g6 fd6 ["_law_table", "_law_hands"] (spShownT K cs B)) (k6 : PySem.W.keepIn K (.ref g6) = true) (b6 : Binds K fd6 ["_law_table", "_law_hands"] []) (m6 : mg "_law_shown" = some (.ref g6))
    (G7 : FnOk P w K mg base CX0 22 g7 fd7 ["_law_table", "_law_hand", "_law_page_here"] (spTooMuch K cs B p1 p2)) (k7 : PySem.W.keepIn K (.ref g7) = true) (b7 : Binds K fd7 ["_law_table", "_law_hand", "_law_page_here"] []) (m7 : mg "_law_too_much" = some (.ref g7))
    (GA : FnOk P w K mg base CX0 21 gA fdA ["_law_works", "_law_due"] (spAllW P w K mg base cs 19)) (kA : PySem.W.keepIn K (.ref gA) = true) (bA : Binds K fdA ["_law_works", "_law_due"] []) (mA : mg "_law_all" = some (.ref gA))
    (GB : FnOk P w K mg base CX0 20 gB fdB ["_law_work"] (spTellsW P w K mg base cs 19)) (kB : PySem.W.keepIn K (.ref gB) = true) (bB : Binds K fdB ["_law_work"] []) (mB : mg "_law_told" = some (.ref gB))
    (MC : Mk K B gC) (bC : Binds K fdC ["self", "page", "style", "hands"] []) (mC : mg "Table" = some (.ref B)) (GC : FnOk P w K mg base CX0 13 gC fdC ["self", "page", "style", "hands"] (spTInit K cs B)) (GCx : FnOk P w K mg base (L2.CX P w) 17 gC fdC ["self", "page", "style", "hands"] (spTInitX K cs Cs Cc))
    (Mw : Meth K B "press" gw) (bw : Binds K fdw ["self", "hand", "sign"] []) (GwX : FnOk P w K mg base (L2.CX P w) 18 gw fdw ["self", "hand", "sign"] (spMX B HH 1)) (GwB : FnOk P w K mg base (L2.CX P w) 18 gw fdw ["self", "hand", "sign"] (spPressB K cs B C)) (GwT : FnOk P w K mg base (L2.CX P w) 18 gw fdw ["self", "hand", "sign"] (spPressT cs B TM))
    (Mu : Meth K B "rub" gu) (bu : Binds K fdu ["self", "hand"] []) (GuX : FnOk P w K mg base (L2.CX P w) 18 gu fdu ["self", "hand"] (spMX B HH 0)) (GuT : FnOk P w K mg base (L2.CX P w) 18 gu fdu ["self", "hand"] (spTRub cs B C TM))
    (Mb : Meth K B "back" gb) (bb : Binds K fdb ["self", "hand"] []) (GbX : FnOk P w K mg base (L2.CX P w) 18 gb fdb ["self", "hand"] (spMX B HH 0)) (Gb : FnOk P w K mg base CX0 13 gb fdb ["self", "hand"] (noE (spTBack cs B TM)))
    (Mg : Meth K B "again" gg) (bg : Binds K fdg ["self", "hand"] []) (GgX : FnOk P w K mg base (L2.CX P w) 18 gg fdg ["self", "hand"] (spMX B HH 0)) (Gg : FnOk P w K mg base CX0 13 gg fdg ["self", "hand"] (noE (spTAgain cs B TM)))
    (Ml : Meth K B "left" gl) (bl : Binds K fdl ["self", "hand"] []) (GlX : FnOk P w K mg base (L2.CX P w) 18 gl fdl ["self", "hand"] (spMX B HH 0))
    (Mr : Meth K B "right" gr) (br : Binds K fdr ["self", "hand"] []) (GrX : FnOk P w K mg base (L2.CX P w) 18 gr fdr ["self", "hand"] (spMX B HH 0)) (Gr : FnOk P w K mg base CX0 5 gr fdr ["self", "hand"] (spTRight cs B))
    (Ma : Meth K B "at" ga) (ba : Binds K fda ["self", "hand"] []) (GaX : FnOk P w K mg base (L2.CX P w) 18 ga fda ["self", "hand"] (spMX B HH 0))
    (Mp : Meth K B "page" gp) (bp : Binds K fdp ["self"] []) (Gp : FnOk P w K mg base CX0 3 gp fdp ["self"] (spTPage cs B)) :
    FnOk P w K mg base CX0 23 f fd ["_law_script"] (spLaw K cs p1 p2) := by
  refine fun_okT F hcode sc_law (fun vs H Q E h => ?_) (fun A outer s H vs Q E hr h => ?_)
  · obtain ⟨a, ns, rfl, _⟩ := h
    rfl
  · obtain ⟨sc, ns, rfl, hT, hL1, hL2, hS, hl, k⟩ := h
    have nd := sc_law.nd
    have hu := hr.units
    have r1 : Room 1 _ := hr.mono (by decide)
    have r2 : Room 2 _ := hr.mono (by decide)
    have r3 : Room 3 _ := hr.mono (by decide)
    have r5 : Room 5 _ := hr.mono (by decide)
    have r6 : Room 6 _ := hr.mono (by decide)
    have r13 : Room 13 _ := hr.mono (by decide)
    have r14 : Room 14 _ := hr.mono (by decide)
    have r16 : Room 16 _ := hr.mono (by decide)
    have rB : Room 20 _ := hr.mono (by decide)
    have rA : Room 21 _ := hr.mono (by decide)
    have r22 : Room 22 _ := hr
    refine ⟨_, (pss_cons (ps_set (i := 1) nd rfl (.inl rfl) (pe_call G1 r1 (by rfl) m1 k1 b1 .nil pass0 (pa_cons (pv 0) pa_nil)))
      (pss_cons (ps_set (i := 2) nd rfl (.inl rfl) (pe_call G2 r1 (by rfl) m2 k2 b2 .nil pass0 (pa_cons (pv 1) (pa_cons pe_int pa_nil))))
      (pss_cons (ps_asg (pe_tup (pa_cons (pe_call G3 r6 (by rfl) m3 k3 b3 .nil pass0 (pa_cons (pv 1) (pa_cons (pv 2) pa_nil))) (pa_cons (pe_call G4 r2 (by rfl) m4 k4 b4 .nil pass0 (pa_cons (pv 1) pa_nil)) pa_nil))) (pg_tup rfl (pgs_cons (pg_name (i := 13) nd rfl (.inr rfl)) (pgs_cons (pg_name (i := 15) nd rfl (.inr rfl)) pgs_nil))))
      (pss_cons (ps_set (i := 3) nd rfl (.inl rfl) (pe_call G2 r1 (by rfl) m2 k2 b2 .nil pass0 (pa_cons (pv 1) (pa_cons (pe_ix ix_list (pe_lst (pa_cons pe_int (pa_cons (pe_op op_pow pe_int pe_int) pa_nil))) (pe_call G2 r1 (by rfl) m2 k2 b2 .nil pass0 (pa_cons (pv 1) (pa_cons pe_int pa_nil))) (fun _ _ => rfl)) pa_nil))))
      (pss_cons (ps_asg (pe_tup (pa_cons (pe_op op_add pe_int (pe_call G2 r1 (by rfl) m2 k2 b2 .nil pass0 (pa_cons (pv 1) (pa_cons pe_int pa_nil)))) (pa_cons (pe_ix ix_list (pe_lst (pa_cons pe_int (pa_cons (pe_op op_add pe_int (pv 3)) (pa_cons (pe_op op_sub (pe_un un_neg pe_int) (pv 3)) (pa_cons pe_non (pa_cons pe_bl (pa_cons pe_str pa_nil))))))) (pe_call G2 r1 (by rfl) m2 k2 b2 .nil pass0 (pa_cons (pv 1) (pa_cons pe_int pa_nil))) (fun _ _ => rfl)) pa_nil))) (pg_tup rfl (pgs_cons (pg_name (i := 10) nd rfl (.inr rfl)) (pgs_cons (pg_name (i := 12) nd rfl (.inr rfl)) pgs_nil))))
      (pss_cons (ps_set (i := 4) nd rfl (.inl rfl) (pe_lst (pa_cons (pe_lamC TB rfl rfl fun y hy e => .inl (kl_a1 y hy e)) pa_nil)))
      (pss_cons (ps_if (PW.pt (pw_or (pt_not (pt_val (pe_callC (names := frA) GA rA (by rfl) mA kA bA (fun _ _ => rfl) kc_frA (pa_cons (pv 4) (pa_cons (pe_tup (pa_cons pe_str (pa_cons pe_int pa_nil))) pa_nil))))) (pw_or1 (pt_not (pt_val (pe_callC (names := frB) GA rA (by rfl) mA kA bA (fun _ _ => rfl) kc_frB (pa_cons (pe_lst (pa_cons (pe_lamC TB rfl rfl fun y hy e => .inl (kl_a2 y hy e)) pa_nil)) (pa_cons (pe_tup (pa_cons pe_str (pa_cons pe_int pa_nil))) pa_nil)))))))) (pss_one (ps_ret pe_bl)) pss_nil)
      (pss_cons (ps_set (i := 16) nd rfl (.inr rfl) (pe_make MC GC r14 (by rfl) mC bC .nil pass0 (pa_cons (pv 13) (pa_cons (pv 15) (pa_cons (pv 10) pa_nil)))))
      (pss_cons (ps_if (pt_not (pt_val (pe_callC (names := frC) GA rA (by rfl) mA kA bA (fun _ _ => rfl) kc_frC (pa_cons (pe_lst (pa_cons (pe_lamC TB rfl rfl fun y hy e => .inl (kl_a3 y hy e)) pa_nil)) (pa_cons (pe_tup (pa_cons pe_str (pa_cons pe_int pa_nil))) pa_nil))))) (pss_one (ps_ret pe_bl)) pss_nil)
      (pss_cons (ps_for PassesOwn.never rfl (pi_range1 (by rfl) T.range (pa_cons (pe_op op_add pe_int (pe_call G2 r1 (by rfl) m2 k2 b2 .nil pass0 (pa_cons (pv 1) (pa_cons pe_int pa_nil)))) pa_nil)) (pg_name (i := 5) nd rfl (.inl rfl))
      (pss_cons (ps_set (i := 9) nd rfl (.inr rfl) (pe_call G2 r1 (by rfl) m2 k2 b2 .nil pass0 (pa_cons (pv 1) (pa_cons (pv 10) pa_nil))))
      (pss_cons (ps_for PassesOwn.never rfl (pi_range1 (by rfl) T.range (pa_cons (pe_call G2 r1 (by rfl) m2 k2 b2 .nil pass0 (pa_cons (pv 1) (pa_cons (pe_ix ix_list (pe_lst (pa_cons pe_int (pa_cons pe_int (pa_cons (pe_op op_add (pe_op op_mul pe_int (pe_callTy call_int1 (by rfl) T.int (by decide +kernel) (pa_cons (pe_cmpR op_eq (pv 2) pe_int (nomark _)) pa_nil))) pe_int) pa_nil)))) (pe_call G2 r1 (by rfl) m2 k2 b2 .nil pass0 (pa_cons (pv 1) (pa_cons pe_int pa_nil))) (fun _ _ => rfl)) pa_nil))) pa_nil)) (pg_name (i := 6) nd rfl (.inl rfl))
      (pss_one (ps_expr (pe_meth (pv 16) X.cls Mr Gr r5 br .nil pass0 (pa_cons (pv 9) pa_nil)))))
      (pss_cons (ps_set (i := 7) nd rfl (.inl rfl) (pe_call G6 r16 (by rfl) m6 k6 b6 .nil pass0 (pa_cons (pv 16) (pa_cons (pv 10) pa_nil))))
      (pss_cons (ps_set (i := 11) nd rfl (.inr rfl) (pe_ix ix_list (pe_lst (pa_cons (pe_op op_add (pv 10) (pv 3)) (pa_cons (pe_op op_sub (pe_un un_neg pe_int) (pv 3)) (pa_cons pe_non (pa_cons pe_str pa_nil))))) (pe_call G2 r1 (by rfl) m2 k2 b2 .nil pass0 (pa_cons (pv 1) (pa_cons pe_int pa_nil))) (fun _ _ => rfl)))
      (pss_cons (ps_set (i := 4) nd rfl (.inl rfl) (pe_lst (pa_cons (pe_lamC TB rfl rfl fun y hy e => .inl (kl_a4 y hy e)) (pa_cons (pe_lamD (v := .int 0) TB rfl rfl rfl rfl pe_int (fun y hy e => .inl (kl_a5 y hy e)) ⟨("_law_table", .free), by decide +kernel, rfl⟩) (pa_cons (pe_lamD (v := .int 0) TB rfl rfl rfl rfl pe_int (fun y hy e => .inl (kl_a6 y hy e)) ⟨("_law_table", .free), by decide +kernel, rfl⟩) pa_nil)))))
      (pss_cons (ps_set (i := 4) nd rfl (.inl rfl) (pe_op op_cat (pv 4) (pe_lst (pa_cons (pe_lamD (v := .int 0) TB rfl rfl rfl rfl pe_int (fun y hy e => .inl (kl_a7 y hy e)) ⟨("_law_table", .free), by decide +kernel, rfl⟩) (pa_cons (pe_lamD (v := .int 0) TB rfl rfl rfl rfl pe_int (fun y hy e => .inl (kl_a8 y hy e)) ⟨("_law_table", .free), by decide +kernel, rfl⟩) (pa_cons (pe_lamD (v := .int 0) TB rfl rfl rfl rfl pe_int (fun y hy e => .inl (kl_a9 y hy e)) ⟨("_law_table", .free), by decide +kernel, rfl⟩) pa_nil))))))
      (pss_cons (ps_if (pt_not (pt_val (pe_callC (names := frN) GA rA (by rfl) mA kA bA (fun _ _ => rfl) kc_frN (pa_cons (pe_op op_cat (pv 4) (pe_lst (pa_cons (pe_lamD (v := .int 0) TB rfl rfl rfl rfl pe_int (fun y hy e => .inl (kl_a10 y hy e)) ⟨("_law_table", .free), by decide +kernel, rfl⟩) pa_nil))) (pa_cons (pe_tup (pa_cons pe_str (pa_cons pe_int pa_nil))) pa_nil))))) (pss_one (ps_ret pe_bl)) pss_nil)
      (pss_cons (ps_set (i := 14) nd rfl (.inr rfl) (pe_ix ix_list (pe_lst (pa_cons pe_str (pa_cons pe_str (pa_cons pe_non (pa_cons pe_int (pa_cons pe_str (pa_cons (pe_tup (pa_cons pe_str pa_nil)) (pa_cons pe_str pa_nil)))))))) (pe_call G2 r1 (by rfl) m2 k2 b2 .nil pass0 (pa_cons (pv 1) (pa_cons pe_int pa_nil))) (fun _ _ => rfl)))
      (pss_cons (ps_if (pt_not (pt_val (pe_callC (names := frS) GA rA (by rfl) mA kA bA (fun _ _ => rfl) kc_frS (pa_cons (pe_lst (pa_cons (pe_lamC TB rfl rfl fun y hy e => .inl (kl_a11 y hy e)) pa_nil)) (pa_cons (pe_tup (pa_cons pe_str (pa_cons pe_int pa_nil))) pa_nil))))) (pss_one (ps_ret pe_bl)) pss_nil)
      (pss_cons (ps_if (PW.pt (pw_or (pt_not (pt_val (pe_call G7 r22 (by rfl) m7 k7 b7 .nil pass0 (pa_cons (pv 16) (pa_cons (pv 9) (pa_cons (pe_ix ix_list (pv 7) pe_int (fun _ _ => rfl)) pa_nil)))))) (pw_or1 (pt_cmpR (op_neD hu) (pe_call G6 r16 (by rfl) m6 k6 b6 .nil pass0 (pa_cons (pv 16) (pa_cons (pv 10) pa_nil))) (pv 7) (nomark _))))) (pss_one (ps_ret pe_bl)) pss_nil)
      (pss_cons (ps_set (i := 8) nd rfl (.inr rfl) (pe_ix ix_list (pe_lst (pa_cons (pe_call G5 r2 (by rfl) m5 k5 b5 .nil pass0 (pa_cons (pv 1) pa_nil)) (pa_cons pe_str (pa_cons pe_str pa_nil)))) (pe_call G2 r1 (by rfl) m2 k2 b2 .nil pass0 (pa_cons (pv 1) (pa_cons pe_int pa_nil))) (fun _ _ => rfl)))
      (pss_cons (ps_if (PW.pt (pw_and (pt_cmpR op_isN (pe_callC (names := frG) GB rB (by rfl) mB kB bB (fun _ _ => rfl) kc_frG (pa_cons (pe_lamC TB rfl rfl fun y hy e => .inl (kl_a12 y hy e)) pa_nil)) pe_non (nomark _)) (pw_and1 (pt_cmpR op_notBl (pe_meth (pv 16) X.cls Mb Gb r13 bb .nil pass0 (pa_cons (pv 9) pa_nil)) pe_bl (nomark _))))) (pss_one (ps_ret pe_bl)) pss_nil)
      (pss_cons (ps_if (pt_cmpR (op_neD hu) (pe_meth0 (pv 16) X.cls Mp Gp r3 bp .nil pass0) (pe_ix ix_list (pv 7) pe_int (fun _ _ => rfl)) (nomark _)) (pss_one (ps_ret pe_bl)) pss_nil)
      (pss_one (ps_expr (pe_meth (pv 16) X.cls Mg Gg r13 bg .nil pass0 (pa_cons (pv 9) pa_nil))))))))))))))))))
      (pss_one (ps_ret pe_bl)))))))))))), ?_⟩
    have szl : (9000 : Nat) < sizeLine := by decide
    have mF : Mob H (fun _ => False) := fun c z => z.elim
    refine ⟨_, rfl, sc, ns, rfl, hS, hl, fun b l H1 hB1 x1 nb nl => ?_⟩
    have e1 := same_ex x1 hT
    have L11 := tabS_kn (kn_ex e1) mF n1 hL1
    have L21 := tabS_kn (kn_ex e1) mF n2 hL2
    have t1 := e1.tab
    clear hS hl nb nl hL1 hL2 hT x1 e1
    refine ⟨_, rfl, b, l, 6, rfl, hB1, by decide, by decide, fun wy H2 w0 w1 hB2 x2 => ?_⟩
    refine ⟨_, rfl, _, rfl, b, l, wy, rfl, hB2, fun pg as rows H3 hB3 x3 pb pl hp hrow hO => ⟨_, rfl, b, l, rfl, hB3, fun st gap least H4 hB4 x4 nst hst g0 g1 l0 l1 => ?_⟩⟩
    have kbn : ∀ {H H' : Hp}, KB b l H H' → KN cs (fun c => c = b ∨ c = l) H H' := fun x c o h _ n => x c o h (fun z => n (.inl z)) fun z => n (.inr z)
    have bm : ∀ {H : Hp}, BoxAt H b l → Mob H (fun c => c = b ∨ c = l) := fun hB => by
      obtain ⟨ns, s1, e1, e2, _⟩ := hB
      exact fun c z => .inl (z.elim (fun e => e ▸ ⟨_, e1⟩) fun e => e ▸ ⟨_, e2⟩)
    have o : Sit0 K cs p1 p2 b l pg st as rows gap least H4 :=
      ⟨hB4, tabs_kb (tabs_kb (tabs_kb t1 hB1 x2) hB2 x3) hB3 x4, tabS_kn (kbn x4) (bm hB3) n1 (tabS_kn (kbn x3) (bm hB2) n1 (tabS_kn (kbn x2) (bm hB1) n1 L11)), tabS_kn (kbn x4) (bm hB3) n2 (tabS_kn (kbn x3) (bm hB2) n2 (tabS_kn (kbn x2) (bm hB1) n2 L21)),
        x4 _ _ hp pb pl, ⟨hrow.len, fun i p r e1 e2 => sqT_km (kbn x4).w (bm hB3) (hrow.row i p r e1 e2)⟩, ⟨SqT.of hst, g0, g1, l0, l1⟩, pb, pl⟩
    clear x2 x3 x4 hB1 hB2 hB3 hB4 t1 L11 L21 hp hrow hst nst pb pl kbn bm g0 g1 l0 l1
    refine ⟨by show 2 ≤ sizeLine; decide, fun t0 nt0 => ?_⟩
    have o := o.ex n1 n2 (Ex.laid (o := .tup [V.ref pg, V.ref st]) o.tab nt0)
    have ht0 := upd_same (H := H4) (a := t0) (o := .tup [V.ref pg, V.ref st])
    refine ⟨t0, _, rfl, SqT.of ht0, rfl, _, _, rfl, _, _, rfl, rfl, ?_⟩
    generalize upd H4 t0 (.tup [V.ref pg, V.ref st]) = H5 at o ⊢
    clear ht0 nt0
    -- far
    refine ⟨_, rfl, 10, 18, rfl, rfl, ⟨by decide, by decide, by decide⟩, by show 2 ≤ sizeLine; decide, fun q0 nq0 => ⟨_, rfl, b, l, 2, rfl, box_new o.box nq0, by decide, by decide, fun z H6 z0 z1 hB6 x6 => ?_⟩⟩
    obtain ⟨nb0, nl0⟩ := new_ne o.box nq0
    have hq := x6 q0 _ upd_same nb0 nl0
    have o := (o.ex n1 n2 (Ex.laid (o := .lst [V.int 3, V.int (10 ^ (18 : Int).toNat)]) o.tab nq0)).draw n1 n2 x6 hB6
    obtain ⟨m, hm, em⟩ := pick (xs := [(3 : Int), 10 ^ (18 : Int).toNat]) (i := z) z0 z1
    have hm2 : 0 < m ∧ m < 4611686018427387904 := by
      simp only [List.mem_cons, List.not_mem_nil, or_false] at hm
      rcases hm with e | e <;> rw [e] <;> decide
    refine ⟨q0, _, _, .int m, rfl, rfl, SqL.of hq, atI_map (f := V.int) em, b, l, m, rfl, o.box, hm2.1, hm2.2, fun fr H7 fr0 fr1 hB7 x7 => ?_⟩
    have o := o.draw n1 n2 x7 hB7
    clear hq hm em x6 x7 hB6 hB7 nq0 nb0 nl0
    -- hands, and what is none
    refine ⟨_, rfl, b, l, 4, rfl, o.box, by decide, by decide, fun h4 H8 h0 h1 hB8 x8 => ⟨1, h4, rfl, rfl, ?_⟩⟩
    have o := o.draw n1 n2 x8 hB8
    obtain ⟨n, hn, hn1, hn4⟩ : ∃ n : Nat, 1 + h4 = ((n : Nat) : Int) ∧ 1 ≤ n ∧ n ≤ 4 := ⟨(1 + h4).toNat, by omega, by omega, by omega⟩
    dsimp only
    rw [hn]
    clear hn h0 h1 hB8 x8
    refine ⟨_, rfl, _, _, rfl, rfl, _, rfl, _, rfl, _, _, rfl, rfl, by show 6 ≤ sizeLine; decide, fun q1 nq1 => ⟨_, rfl, b, l, 6, rfl, box_new o.box nq1, by decide, by decide, fun z1 H9 z10 z11 hB9 x9 => ?_⟩⟩
    obtain ⟨nb1, nl1⟩ := new_ne o.box nq1
    have hq1 := x9 q1 _ upd_same nb1 nl1
    have o := (o.ex n1 n2 (Ex.laid o.tab nq1)).draw n1 n2 x9 hB9
    obtain ⟨od, hod, eod⟩ := pick (xs := ([.int 0, .int (5 + fr), .int (-1 - fr), .non, .bl true, .str "1"] : List V)) (i := z1) z10 z11
    have hodd := odd_no fr0 od hod
    refine ⟨q1, _, _, od, rfl, rfl, SqL.of hq1, eod, by show 2 ≤ sizeLine; decide, fun t1 nt1 => ?_⟩
    have x10 := Ex.laid (o := .tup [V.int (n : Nat), od]) o.tab nt1
    have o := o.ex n1 n2 x10
    have ht1 := upd_same (H := H9) (a := t1) (o := .tup [V.int (n : Nat), od])
    refine ⟨t1, _, rfl, SqT.of ht1, rfl, _, _, rfl, _, _, rfl, rfl, ?_⟩
    generalize upd H9 t1 (.tup [V.int (n : Nat), od]) = H10 at o ⊢
    clear hq1 nq1 nb1 nl1 hod eod x9 hB9 x10 ht1 nt1 z10 z11
    -- a table with a number of hands that can't be
    refine ⟨o.l2, fun f1 c1 H11 k1 k2 t11 nf1 hf1 hc1 => ⟨by show 1 ≤ sizeLine; decide, fun w1 nw1 => ?_⟩⟩
    have o := o.lam2 n2 np ⟨k1, k2⟩ t11
    have xw := Ex.laid (o := .lst [V.ref f1]) o.tab nw1
    have o := o.ex n1 n2 xw
    have hf1 := xw.ext _ _ hf1 fnL_ne
    have hc1 := xw.ext _ _ hc1 LamX.codeO_ne
    have hw1 := upd_same (H := H11) (a := w1) (o := .lst [V.ref f1])
    generalize upd H11 w1 (.lst [V.ref f1]) = H12 at o hf1 hc1 hw1 ⊢
    clear xw nw1 nf1 k1 k2 t11
    have page0 : PageAt K H12 pg as rows := o.page
    refine ⟨_, rfl, by show 2 ≤ sizeLine; decide, fun dd ndd cl Tc un => ?_⟩
    have yd := Ex.laid (o := .tup [V.str "BadCount", V.int 0]) o.tab ndd
    have hdd := upd_same (H := H12) (a := dd) (o := .tup [V.str "BadCount", V.int 0])
    have o := o.ex n1 n2 yd
    have hw1 := yd.lst hw1
    have q : HfL f1 ⟨"<lambda>", q2S, la1.1, [], la1.2.2, cloFrom (cxOf CX0 P w K mg base nmLaw "law" (defScope s_law) f (.ref cd) A outer s H E).nox.env.cells la1.2.2.names [], c1⟩ la1.2.1 _ := ⟨yd.ext _ _ hf1 fnL_ne, yd.ext _ _ hc1 LamX.codeO_ne⟩
    generalize upd H12 dd (.tup [V.str "BadCount", V.int 0]) = H13 at o hw1 hdd q un ⊢
    refine ⟨w1, dd, [f1], 4, 0, rfl, tabs_addC o.tab un, add_at un hw1, add_at un hdd, fun f hf => ?_, fun H' x told => ⟨true, rfl, iteF ?_⟩⟩
    · rw [List.mem_singleton.mp hf]
      refine TGK.ref_of (ws := [some (.ref pg), some (.ref st), some od]) sc_a1 (fun y hy => sc_a1.free (y, .free) hy rfl) (fun y hy => hy) Tc un rfl rfl (fun i y v q1 q2 => by
          match i, q1, q2 with
          | 0, q1, q2 => cases q1; cases q2; exact ⟨13, rfl, rfl⟩
          | 1, q1, q2 => cases q1; cases q2; exact ⟨15, rfl, rfl⟩
          | 2, q1, q2 => cases q1; cases q2; exact ⟨12, rfl, rfl⟩
          | i + 3, q1, _ => simp at q1) (fun H1 x => ⟨x.ext _ _ (add_at un q.1) fnL_ne, x.ext _ _ (add_at un q.2) LamX.codeO_ne⟩) (lok_a1 MC GCx bC mC) (fun H1 x1 _ Z E2 hE => ⟨_, _, _, rfl, fun x dx nx ndx nn => ?_⟩)
      have o1 := o.ex n1 n2 x1
      have y := same_ex (same_mk (o := .own x) (o' := .ins B dx []) nx ndx) o1.tab
      have o2 := o1.ex n1 n2 y
      exact ⟨x, pg, .ref st, od, as, rows, rfl, o2.tab, o2.page, hO, .inr ⟨⟨st, gap, least, rfl, o2.sty⟩, hodd, fun H2 x2 => hE _ _ _ (err_of (by decide) rfl eCc) (y.trans x2)⟩⟩
    have o := o.ex n1 n2 (TGK.ex_del un x)
    generalize delC H' cl = H14 at o ⊢
    clear hdd hw1 q un told x Tc yd ndd hf1 hc1 page0
    -- a table with no style
    refine ⟨o.l2, fun f1 c1 H15 k1 k2 t11 nf1 hf1 hc1 => ⟨by show 1 ≤ sizeLine; decide, fun w2 nw2 => ⟨by show 2 ≤ sizeLine; decide, fun dd ndd cl Tc un => ?_⟩⟩⟩
    have o := o.lam2 n2 np ⟨k1, k2⟩ t11
    have xw := Ex.laid (o := .lst [V.ref f1]) o.tab nw2
    have o := o.ex n1 n2 xw
    have yd := Ex.laid (o := .tup [V.str "BadStyle", V.int 0]) o.tab ndd
    have o := o.ex n1 n2 yd
    have hw2 := yd.lst (upd_same (H := H15) (a := w2) (o := .lst [V.ref f1]))
    have hdd := upd_same (H := upd H15 w2 (.lst [V.ref f1])) (a := dd) (o := .tup [V.str "BadStyle", V.int 0])
    have q : HfL f1 ⟨"<lambda>", q2S, la2.1, [], la2.2.2, cloFrom (cxOf CX0 P w K mg base nmLaw "law" (defScope s_law) f (.ref cd) A outer s H E).nox.env.cells la2.2.2.names [], c1⟩ la2.2.1 _ := ⟨(xw.trans yd).ext _ _ hf1 fnL_ne, (xw.trans yd).ext _ _ hc1 LamX.codeO_ne⟩
    generalize upd (upd H15 w2 (.lst [V.ref f1])) dd (.tup [V.str "BadStyle", V.int 0]) = H16 at o hw2 hdd q un ⊢
    refine ⟨w2, dd, [f1], 1, 0, rfl, tabs_addC o.tab un, add_at un hw2, add_at un hdd, fun f hf => ?_, fun H' x told => ⟨true, rfl, iteF ?_⟩⟩
    · rw [List.mem_singleton.mp hf]
      refine TGK.ref_of (ws := [some (.ref pg), some od]) sc_a2 (fun y hy => sc_a2.free (y, .free) hy rfl) (fun y hy => hy) Tc un rfl rfl (fun i y v q1 q2 => by
          match i, q1, q2 with
          | 0, q1, q2 => cases q1; cases q2; exact ⟨13, rfl, rfl⟩
          | 1, q1, q2 => cases q1; cases q2; exact ⟨12, rfl, rfl⟩
          | i + 2, q1, _ => simp at q1) (fun H1 x => ⟨x.ext _ _ (add_at un q.1) fnL_ne, x.ext _ _ (add_at un q.2) LamX.codeO_ne⟩) (lok_a2 MC GCx bC mC) (fun H1 x1 _ Z E2 hE => ⟨_, _, rfl, fun x dx nx ndx nn => ?_⟩)
      have o1 := o.ex n1 n2 x1
      have y := same_ex (same_mk (o := .own x) (o' := .ins B dx []) nx ndx) o1.tab
      have o2 := o1.ex n1 n2 y
      exact ⟨x, pg, .non, od, as, rows, rfl, o2.tab, o2.page, hO, .inl ⟨rfl, fun H2 x2 => hE _ _ _ (err_of (by decide) rfl eCs) (y.trans x2)⟩⟩
    have o := o.ex n1 n2 (TGK.ex_del un x)
    generalize delC H' cl = H17 at o ⊢
    clear hdd hw2 q un told x Tc yd ndd hf1 hc1 xw nw2 nf1 k1 k2 t11
    -- the table
    refine ⟨_, rfl, _, rfl, _, rfl, fun tb dx ntb ndx nn => ?_⟩
    have y := same_ex (same_mk (o := .own tb) (o' := .ins B dx []) ntb ndx) o.tab
    have o := o.ex n1 n2 y
    have hob : upd (upd H17 dx (.own tb)) tb (.ins B dx []) tb = some (.ins B dx []) := upd_same
    generalize upd (upd H17 dx (.own tb)) tb (.ins B dx []) = H18 at o hob ⊢
    refine ⟨tb, pg, st, dx, as, rows, gap, least, n, rfl, o.tab, hob, o.page, hO, o.sty, hn1, hn4, fun a H19 es kp ow t19 old td => ⟨rfl, ?_⟩⟩
    have o := o.made n1 n2 hob es kp ow t19 td
    clear y hob es kp ow t19 td old ntb ndx nn
    -- what it is at the start
    have tz := page_tx hO
    have lz : (pageT rows).length ≤ 2100 := Nat.le_trans (pageT_len hO) (by decide)
    obtain ⟨t, etx⟩ := start_all (n := n) tz lz hn4
    have hP : PgOk (rowsT (txt (startR (pageT rows) n))) := by rw [etx, rowsT_page hO]; exact hO
    have nr0 := start_near (n := n) (h := n - 1) tz lz hn4 (by omega)
    have sn : (startR (pageT rows) n).spots.length = n := List.length_replicate
    have sl : (startR (pageT rows) n).signs.length ≤ 2200 := by
      show (sgS (pageT rows) ++ [("" : Str)]).length ≤ 2200
      rw [List.length_append, sgS_len]
      show (pageT rows).length + 1 ≤ 2200
      omega
    have sd : (startR (pageT rows) n).deeds = [] := rfl
    -- a rub at its begin
    refine ⟨o.l2, fun f1 c1 H20 k1 k2 t11 nf1 hf1 hc1 => ⟨by show 1 ≤ sizeLine; decide, fun w2 nw2 => ⟨by show 2 ≤ sizeLine; decide, fun dd ndd cl Tc un => ?_⟩⟩⟩
    have o := o.lam2 n2 np ⟨k1, k2⟩ t11
    have xw := Ex.laid (o := .lst [V.ref f1]) o.tab nw2
    have o := o.ex n1 n2 xw
    have yd := Ex.laid (o := .tup [V.str "BadCell", V.int 0]) o.tab ndd
    have o := o.ex n1 n2 yd
    have hw2 := yd.lst (upd_same (H := H20) (a := w2) (o := .lst [V.ref f1]))
    have hdd := upd_same (H := upd H20 w2 (.lst [V.ref f1])) (a := dd) (o := .tup [V.str "BadCell", V.int 0])
    have q : HfL f1 ⟨"<lambda>", q2S, la3.1, [], la3.2.2, cloFrom (cxOf CX0 P w K mg base nmLaw "law" (defScope s_law) f (.ref cd) A outer s H E).nox.env.cells la3.2.2.names [], c1⟩ la3.2.1 _ := ⟨(xw.trans yd).ext _ _ hf1 fnL_ne, (xw.trans yd).ext _ _ hc1 LamX.codeO_ne⟩
    generalize upd (upd H20 w2 (.lst [V.ref f1])) dd (.tup [V.str "BadCell", V.int 0]) = H21 at o hw2 hdd q un ⊢
    refine ⟨w2, dd, [f1], 3, 0, rfl, tabs_addC o.tab un, add_at un hw2, add_at un hdd, fun f hf => ?_, fun H' x told => ⟨true, rfl, iteF ?_⟩⟩
    · rw [List.mem_singleton.mp hf]
      refine TGK.ref_of (ws := [some (.ref tb), some (.int (n : Nat))]) sc_a3 (fun y hy => sc_a3.free (y, .free) hy rfl) (fun y hy => hy) Tc un rfl rfl (fun i y v q1 q2 => by
          match i, q1, q2 with
          | 0, q1, q2 => cases q1; cases q2; exact ⟨16, rfl, rfl⟩
          | 1, q1, q2 => cases q1; cases q2; exact ⟨10, rfl, rfl⟩
          | i + 2, q1, _ => simp at q1) (fun H1 x => ⟨x.ext _ _ (add_at un q.1) fnL_ne, x.ext _ _ (add_at un q.2) LamX.codeO_ne⟩) (lok_a3 X.cls Mu GuT bu) (fun H1 x1 _ Z E2 hE => ?_)
      have o1 := o.ex n1 n2 x1
      refine ⟨tb, a.dx, _, (n : Nat), rfl, o1.tt.ob, rfl, tb, n - 1, a, _, by rw [show ((n : Nat) : Int) - 1 = ((n - 1 : Nat) : Int) by omega], o1.tab, o1.tt, t.tok, by rw [sn]; omega, fun m hm => ?_, fun _ H2 x2 => hE _ _ _ (err_of (by decide) rfl eC) x2⟩
      rw [nr0] at hm
      cases hm
    have o := o.ex n1 n2 (TGK.ex_del un x)
    generalize delC H' cl = H22 at o ⊢
    clear hdd hw2 q un told x Tc yd ndd hf1 hc1 xw nw2 nf1 k1 k2 t11 nr0 tz lz etx
    generalize startR (pageT rows) n = S at o t hP sn sl sd
    -- the turns
    refine ⟨_, rfl, b, l, 12, rfl, o.box, by decide, by decide, fun tn H23 tn0 tn1 hB23 x23 => ⟨1, tn, rfl, rfl, ?_⟩⟩
    obtain ⟨o, _⟩ := o.draw (Z := fun _ => False) n1 n2 x23 hB23
    clear hB23 x23
    refine ⟨_, rfl, by omega, by omega, for_range (n := (1 + tn).toNat) (fun i σ H' => ∃ (c4 c5 c6 c7 c8 c9 c11 c14 : Option V) (a : TA) (S : TSt) (O : List Nat) (n0 : Nat), σ = [some (.ref sc), some (.ref b), some (.int wy), some (.int fr), c4, c5, c6, c7, c8, c9, some (.int (n : Nat)), c11, some od, some (.ref pg), c14, some (.ref st), some (.ref tb)] ∧ AllP S O n0 ∧ S.spots.length = n ∧ PgOk (rowsT (txt S)) ∧ S.signs.length ≤ 2200 + i ∧ S.deeds.length ≤ i ∧ (∀ d ∈ S.deeds, MarkOk d.2.1) ∧ SitT K cs B p1 p2 b l st tb gap least a S H')
      ⟨_, none, none, none, none, none, none, none, a, S, _, _, rfl, t, sn, hP, by omega, by rw [sd]; exact Nat.le_refl 0, (by rw [sd]; exact fun d hd => nomatch hd), o⟩ ?_ ?_⟩
    rotate_left
    · rintro σ H' _
      exact k _
    clear o t hP sn sl sd
    rintro i σ H24 hi ⟨c4, c5, c6, c7, c8, c9, c11, c14, a, S, O, n0, rfl, t, sn, hP, sl, sd, dm, o⟩
    have i12 : i < 12 := by omega
    have l1 : S.signs.length ≤ 3900 := by omega
    have l2 : S.deeds.length ≤ 900 := by omega
    -- the hand
    refine ⟨_, rfl, _, rfl, b, l, ((n : Nat) : Int), rfl, o.box, by omega, by omega, fun hd H25 hd0 hd1 hB25 x25 => ?_⟩
    obtain ⟨o, _⟩ := o.draw (Z := fun _ => False) n1 n2 x25 hB25
    obtain ⟨h, rfl⟩ := Int.eq_ofNat_of_zero_le hd0
    have hh : h < n := by omega
    clear hB25 x25 hd0 hd1
    -- it goes right
    refine ⟨_, rfl, _, rfl, rfl, .inr ⟨_, rfl, 300, _, rfl, rfl, .inl ⟨by decide, by decide⟩, _, _, rfl, rfl, ?_⟩⟩
    obtain ⟨mx, hmx, hmx0, hmx1⟩ : ∃ mx : Int, 300 * (if decide (V.int wy = V.int 1) = true then (1 : Int) else 0) + 40 = mx ∧ 0 < mx ∧ mx ≤ 340 := by
      refine ⟨_, rfl, ?_, ?_⟩ <;> split <;> omega
    dsimp only
    rw [hmx]
    refine ⟨by show 3 ≤ sizeLine; decide, fun q0 nq0 => ⟨_, rfl, b, l, 3, rfl, box_new o.box nq0, by decide, by decide, fun z0 H26 z00 z01 hB26 x26 => ?_⟩⟩
    obtain ⟨nb0, nl0⟩ := new_ne o.box nq0
    have hq := x26 q0 _ upd_same nb0 nl0
    obtain ⟨o, _⟩ := (o.ex n1 n2 (Ex.laid (o := .lst [V.int 4, V.int 40, V.int mx]) o.tab nq0)).draw (Z := fun _ => False) n1 n2 x26 hB26
    obtain ⟨m, hm, em⟩ := pick (xs := [(4 : Int), 40, mx]) (i := z0) z00 z01
    have hm2 : 0 < m ∧ m ≤ 340 := by
      simp only [List.mem_cons, List.not_mem_nil, or_false] at hm
      omega
    refine ⟨q0, _, _, .int m, rfl, rfl, SqL.of hq, atI_map (f := V.int) em, b, l, m, rfl, o.box, hm2.1, by omega, fun rn H27 rn0 rn1 hB27 x27 => ?_⟩
    obtain ⟨o, _⟩ := o.draw (Z := fun _ => False) n1 n2 x27 hB27
    clear hq hm em x26 x27 hB26 hB27 nq0 nb0 nl0 hmx hmx0 hmx1 z00 z01
    refine ⟨rn, rfl, by omega, by omega, ?_⟩
    refine for_range (n := rn.toNat) (D := { nx := _, rt := Q, bk := fun _ _ => True, ct := fun _ _ => True }) (fun i' σ H' => ∃ (c6 : Option V) (a : TA) (S' : TSt), σ = [some (.ref sc), some (.ref b), some (.int wy), some (.int fr), c4, some (.int (0 + (i : Nat))), c6, c7, c8, some (.int (h : Nat)), some (.int (n : Nat)), c11, some od, some (.ref pg), c14, some (.ref st), some (.ref tb)] ∧ AllP S' O n0 ∧ S'.spots.length = n ∧ txt S' = txt S ∧ S'.deeds = S.deeds ∧ S'.signs = S.signs ∧ SitT K cs B p1 p2 b l st tb gap least a S' H')
      ⟨c6, a, S, rfl, t, sn, rfl, rfl, rfl, o⟩ ?_ ?_
    · rintro i' σ H28 hi' ⟨c6, a, S', rfl, t, sn, tx, ds, sg, o⟩
      obtain ⟨g1, g2, g3, g4, g5⟩ := t.go (h := h) 1
      refine ⟨_, rfl, tb, a.dx, _, rfl, o.tt.ob, rfl, _, rfl, tb, h, a, S', rfl, o.tab, o.tt, t.tok, by rw [sn]; exact hh, fun a2 H29 es kn ow t29 old td => ?_⟩
      obtain ⟨o2, _⟩ := o.table (Z := fun _ => False) n1 n2 es kn ow t29 td
      exact ⟨_, a2, _, rfl, g1, g5.trans sn, g2.trans tx, g3.trans ds, g4.trans sg, o2⟩
    clear o t sn
    rintro σ H28 ⟨c6, a, S', rfl, t, sn, tx, ds, sg, o⟩
    rw [← tx] at hP
    rw [← ds] at sd l2 dm
    rw [← sg] at sl l1
    clear tx ds sg
    -- what is shown
    refine ⟨_, rfl, _, rfl, tb, a, S', O, n0, n, gap, least, rfl, o.tab, o.tt, t, hP, by rw [o.est]; exact o.sty, sn, fun bf r0 ps ws H29 x29 nbf nr0 dz hbf hr0 hrow => ?_⟩
    have o' := o.ex n1 n2 x29
    obtain ⟨Z, hZ0, hZb, hZo, Zr0, Zbf, dz⟩ : ∃ Z : Addr → Prop, (∀ c, Z c → ∃ us, H29 c = some (.lst us)) ∧ (∀ c, Z c → ¬ (c = b ∨ c = l)) ∧ (∀ c, Z c → ¬ ownT tb a c) ∧ Z r0 ∧ Z bf ∧ DpZ K Z H29 (.ref bf) (shownD S' gap least n) := by
      refine ⟨fun c => H28 c = none ∧ ∃ us, H29 c = some (.lst us), fun c z => z.2, fun c z e => ?_, fun c z hc => mob_some o.tt.mob hc z.1, ⟨nr0, _, hr0⟩, ⟨nbf, _, hbf⟩, fun H' x => dz H' ⟨fun c us z e => x.ls c us ⟨z.1, us, e⟩ e, x.tp⟩⟩
      obtain ⟨ns, s1, e1, e2, _⟩ := id o.box
      rcases e with e | e
      · rw [e, e1] at z; cases z.1
      · rw [e, e2] at z; cases z.1
    have o := o'
    clear o' x29 nbf nr0
    -- no hand
    refine ⟨_, rfl, _, rfl, _, _, rfl, rfl, _, rfl, _, rfl, _, _, rfl, rfl, by show 4 ≤ sizeLine; decide, fun q1 nq1 => ⟨_, rfl, b, l, 4, rfl, box_new o.box nq1, by decide, by decide, fun z1 H30 z10 z11 hB30 x30 => ?_⟩⟩
    obtain ⟨nb1, nl1⟩ := new_ne o.box nq1
    have hq1 := x30 q1 _ upd_same nb1 nl1
    have xq := Ex.laid (o := .lst [V.int ((n : Nat) + fr), V.int (-1 - fr), V.non, V.str "0"]) o.tab nq1
    obtain ⟨o, kz⟩ := (o.ex n1 n2 xq).draw (Z := Z) n1 n2 x30 hB30
    have kz := (Kp.ext xq.ext).tr (kz hZb)
    obtain ⟨nv, hnv, env⟩ := pick (xs := ([.int ((n : Nat) + fr), .int (-1 - fr), .non, .str "0"] : List V)) (i := z1) z10 z11
    have nhd := none_no fr0 sn nv hnv
    refine ⟨q1, _, _, nv, rfl, rfl, SqL.of hq1, env, ?_⟩
    clear hq1 nb1 nl1 hnv env xq nq1 x30 hB30 z10 z11
    -- seven works
    refine ⟨o.l2, fun f4 d4 H31 k1 k2 t11 nf hf hc => ?_⟩
    have lm : Lm p2 _ _ := ⟨k1, k2⟩
    have xe := lm.ext o.l2
    have kz := kz.tr (Kp.ext xe)
    have o := o.lam2 n2 np lm t11
    have wk : Wrks (cxOf CX0 P w K mg base nmLaw "law" (defScope s_law) f (.ref cd) A outer s H E).nox.env.cells H31 [(f4, la4, false)] := Wrks.nil.cons (d := false) ⟨d4, hf, hc⟩
    clear k1 k2 t11 nf hf hc lm
    refine ⟨o.l2, fun f5 d5 u5 H32 k1 k2 t11 nf hf => ?_⟩
    have lm : Lm p2 _ _ := ⟨k1, k2⟩
    have xe := lm.ext o.l2
    have kz := kz.tr (Kp.ext xe)
    have o := o.lam2 n2 np lm t11
    have wk : Wrks (cxOf CX0 P w K mg base nmLaw "law" (defScope s_law) f (.ref cd) A outer s H E).nox.env.cells H32 [(f5, la5, true), (f4, la4, false)] := (wk.lx xe).cons (d := true) ⟨d5, u5, hf⟩
    clear k1 k2 t11 nf hf lm
    refine ⟨o.l2, fun f6 d6 u6 H33 k1 k2 t11 nf hf => ?_⟩
    have lm : Lm p2 _ _ := ⟨k1, k2⟩
    have xe := lm.ext o.l2
    have kz := kz.tr (Kp.ext xe)
    have o := o.lam2 n2 np lm t11
    have wk : Wrks (cxOf CX0 P w K mg base nmLaw "law" (defScope s_law) f (.ref cd) A outer s H E).nox.env.cells H33 [(f6, la6, true), (f5, la5, true), (f4, la4, false)] := (wk.lx xe).cons (d := true) ⟨d6, u6, hf⟩
    clear k1 k2 t11 nf hf lm
    refine ⟨by show 3 ≤ sizeLine; decide, fun w3 nw3 => ?_⟩
    have xw := Ex.laid (o := .lst [V.ref f4, V.ref f5, V.ref f6]) o.tab nw3
    have kz := kz.tr (Kp.ext xw.ext)
    have o := o.ex n1 n2 xw
    have wk := wk.lx xw.ext
    have hw3 := upd_same (H := H33) (a := w3) (o := .lst [V.ref f4, V.ref f5, V.ref f6])
    generalize upd H33 w3 (.lst [V.ref f4, V.ref f5, V.ref f6]) = H34 at o kz wk hw3 ⊢
    clear xw nw3
    refine ⟨_, rfl, o.l2, fun f7 d7 u7 H35 k1 k2 t11 nf hf => ?_⟩
    have lm : Lm p2 _ _ := ⟨k1, k2⟩
    have xe := lm.ext o.l2
    have kz := kz.tr (Kp.ext xe)
    have o := o.lam2 n2 np lm t11
    have wk : Wrks (cxOf CX0 P w K mg base nmLaw "law" (defScope s_law) f (.ref cd) A outer s H E).nox.env.cells H35 [(f7, la7, true), (f6, la6, true), (f5, la5, true), (f4, la4, false)] := (wk.lx xe).cons (d := true) ⟨d7, u7, hf⟩
    have hw3 := xe _ _ hw3 fun ps z => nomatch z
    clear k1 k2 t11 nf hf lm
    refine ⟨o.l2, fun f8 d8 u8 H36 k1 k2 t11 nf hf => ?_⟩
    have lm : Lm p2 _ _ := ⟨k1, k2⟩
    have xe := lm.ext o.l2
    have kz := kz.tr (Kp.ext xe)
    have o := o.lam2 n2 np lm t11
    have wk : Wrks (cxOf CX0 P w K mg base nmLaw "law" (defScope s_law) f (.ref cd) A outer s H E).nox.env.cells H36 [(f8, la8, true), (f7, la7, true), (f6, la6, true), (f5, la5, true), (f4, la4, false)] := (wk.lx xe).cons (d := true) ⟨d8, u8, hf⟩
    have hw3 := xe _ _ hw3 fun ps z => nomatch z
    clear k1 k2 t11 nf hf lm
    refine ⟨o.l2, fun f9 d9 u9 H37 k1 k2 t11 nf hf => ?_⟩
    have lm : Lm p2 _ _ := ⟨k1, k2⟩
    have xe := lm.ext o.l2
    have kz := kz.tr (Kp.ext xe)
    have o := o.lam2 n2 np lm t11
    have wk : Wrks (cxOf CX0 P w K mg base nmLaw "law" (defScope s_law) f (.ref cd) A outer s H E).nox.env.cells H37 [(f9, la9, true), (f8, la8, true), (f7, la7, true), (f6, la6, true), (f5, la5, true), (f4, la4, false)] := (wk.lx xe).cons (d := true) ⟨d9, u9, hf⟩
    have hw3 := xe _ _ hw3 fun ps z => nomatch z
    clear k1 k2 t11 nf hf lm
    refine ⟨by show 3 ≤ sizeLine; decide, fun w4 nw4 => ?_⟩
    have xw := Ex.laid (o := .lst [V.ref f7, V.ref f8, V.ref f9]) o.tab nw4
    have kz := kz.tr (Kp.ext xw.ext)
    have o := o.ex n1 n2 xw
    have wk := wk.lx xw.ext
    have hw3 := xw.lst hw3
    have hw4 := upd_same (H := H37) (a := w4) (o := .lst [V.ref f7, V.ref f8, V.ref f9])
    generalize upd H37 w4 (.lst [V.ref f7, V.ref f8, V.ref f9]) = H38 at o kz wk hw4 hw3 ⊢
    clear xw nw4
    refine ⟨w3, w4, _, _, rfl, rfl, hw3, hw4, by show 6 ≤ sizeLine; decide, fun w5 nw5 => ?_⟩
    dsimp only [List.cons_append, List.nil_append]
    have xw := Ex.laid (o := .lst [V.ref f4, V.ref f5, V.ref f6, V.ref f7, V.ref f8, V.ref f9]) o.tab nw5
    have kz := kz.tr (Kp.ext xw.ext)
    have o := o.ex n1 n2 xw
    have wk := wk.lx xw.ext
    have hw5 := upd_same (H := H38) (a := w5) (o := .lst [V.ref f4, V.ref f5, V.ref f6, V.ref f7, V.ref f8, V.ref f9])
    generalize upd H38 w5 (.lst [V.ref f4, V.ref f5, V.ref f6, V.ref f7, V.ref f8, V.ref f9]) = H39 at o kz wk hw5 ⊢
    clear xw nw5
    refine ⟨_, rfl, o.l2, fun f10 d10 u10 H40 k1 k2 t11 nf hf => ?_⟩
    have lm : Lm p2 _ _ := ⟨k1, k2⟩
    have xe := lm.ext o.l2
    have kz := kz.tr (Kp.ext xe)
    have o := o.lam2 n2 np lm t11
    have wk : Wrks (cxOf CX0 P w K mg base nmLaw "law" (defScope s_law) f (.ref cd) A outer s H E).nox.env.cells H40 [(f10, la10, true), (f9, la9, true), (f8, la8, true), (f7, la7, true), (f6, la6, true), (f5, la5, true), (f4, la4, false)] := (wk.lx xe).cons (d := true) ⟨d10, u10, hf⟩
    have hw5 := xe _ _ hw5 fun ps z => nomatch z
    clear k1 k2 t11 nf hf lm
    refine ⟨by show 1 ≤ sizeLine; decide, fun w6 nw6 => ?_⟩
    have xw := Ex.laid (o := .lst [V.ref f10]) o.tab nw6
    have kz := kz.tr (Kp.ext xw.ext)
    have o := o.ex n1 n2 xw
    have wk := wk.lx xw.ext
    have hw5 := xw.lst hw5
    have hw6 := upd_same (H := H40) (a := w6) (o := .lst [V.ref f10])
    generalize upd H40 w6 (.lst [V.ref f10]) = H41 at o kz wk hw6 hw5 ⊢
    clear xw nw6
    refine ⟨w5, w6, _, _, rfl, rfl, hw5, hw6, by show 7 ≤ sizeLine; decide, fun w7 nw7 => ?_⟩
    dsimp only [List.cons_append, List.nil_append]
    have xw := Ex.laid (o := .lst [V.ref f4, V.ref f5, V.ref f6, V.ref f7, V.ref f8, V.ref f9, V.ref f10]) o.tab nw7
    have kz := kz.tr (Kp.ext xw.ext)
    have o := o.ex n1 n2 xw
    have wk := wk.lx xw.ext
    have hw7 := upd_same (H := H41) (a := w7) (o := .lst [V.ref f4, V.ref f5, V.ref f6, V.ref f7, V.ref f8, V.ref f9, V.ref f10])
    generalize upd H41 w7 (.lst [V.ref f4, V.ref f5, V.ref f6, V.ref f7, V.ref f8, V.ref f9, V.ref f10]) = H42 at o kz wk hw7 ⊢
    clear xw nw7
    refine ⟨by show 2 ≤ sizeLine; decide, fun dd ndd cl Tc un => ?_⟩
    have yd := Ex.laid (o := .tup [V.str "BadHand", V.int 0]) o.tab ndd
    have kz := kz.tr (Kp.ext yd.ext)
    have o := o.ex n1 n2 yd
    have wk := wk.lx yd.ext
    have hw7 := yd.lst hw7
    have hdd := upd_same (H := H42) (a := dd) (o := .tup [V.str "BadHand", V.int 0])
    generalize upd H42 dd (.tup [V.str "BadHand", V.int 0]) = H43 at o kz wk hw7 hdd un ⊢
    refine ⟨w7, dd, [f4, f5, f6, f7, f8, f9, f10], 9, 0, rfl, tabs_addC o.tab un, add_at un hw7, add_at un hdd, fun f hf => ?_, fun H' x told => ⟨true, rfl, iteF ?_⟩⟩
    · simp only [List.mem_cons, List.not_mem_nil, or_false] at hf
      rcases hf with e | e | e | e | e | e | e <;> rw [e]
      · obtain ⟨c', q⟩ := wk _ (.tail _ (.tail _ (.tail _ (.tail _ (.tail _ (.tail _ (.head _)))))))
        refine TGK.ref_of (ws := [some (.ref tb), some nv]) sc_a4 (fun y hy => sc_a4.free (y, .free) hy rfl) (fun y hy => hy) Tc un rfl rfl (fun i y v q1 q2 => by
          match i, q1, q2 with
          | 0, q1, q2 => cases q1; cases q2; exact ⟨16, rfl, rfl⟩
          | 1, q1, q2 => cases q1; cases q2; exact ⟨11, rfl, rfl⟩
          | i + 2, q1, _ => simp at q1) (fun H1 x => ⟨x.ext _ _ (add_at un q.1) fnL_ne, x.ext _ _ (add_at un q.2) LamX.codeO_ne⟩) (lok_a4 X.cls Mw GwX bw) (fun H1 x1 _ Z2 E2 hE => ?_)
        have o1 := o.ex n1 n2 x1
        exact ⟨tb, a.dx, _, nv, rfl, o1.tt.ob, rfl, tb, nv, _, a, S', rfl, rfl, o1.tt, nhd, hE _ _ _ (err_of (by decide) rfl eHH) (Ex.refl o1.tab)⟩
      · obtain ⟨c', t', q⟩ := wk _ (.tail _ (.tail _ (.tail _ (.tail _ (.tail _ (.head _))))))
        refine TGK.ref_of (ws := [some (.ref tb), some nv]) sc_a5 (fun y hy => sc_a5.free (y, .free) hy rfl) (fun y hy => hy) Tc un rfl rfl (fun i y v q1 q2 => by
          match i, q1, q2 with
          | 0, q1, q2 => cases q1; cases q2; exact ⟨16, rfl, rfl⟩
          | 1, q1, q2 => cases q1; cases q2; exact ⟨11, rfl, rfl⟩
          | i + 2, q1, _ => simp at q1) (fun H1 x => ⟨x.ext _ _ (add_at un q.1) fnD_ne, x.ext _ _ (add_at un q.2.1) LamX.codeO_ne, x.tup (add_at un q.2.2)⟩) (lok_a5 X.cls Mu GuX bu) (fun H1 x1 _ Z2 E2 hE => ?_)
        have o1 := o.ex n1 n2 x1
        exact ⟨tb, a.dx, _, nv, rfl, o1.tt.ob, rfl, tb, nv, _, a, S', rfl, rfl, o1.tt, nhd, hE _ _ _ (err_of (by decide) rfl eHH) (Ex.refl o1.tab)⟩
      · obtain ⟨c', t', q⟩ := wk _ (.tail _ (.tail _ (.tail _ (.tail _ (.head _)))))
        refine TGK.ref_of (ws := [some (.ref tb), some nv]) sc_a6 (fun y hy => sc_a6.free (y, .free) hy rfl) (fun y hy => hy) Tc un rfl rfl (fun i y v q1 q2 => by
          match i, q1, q2 with
          | 0, q1, q2 => cases q1; cases q2; exact ⟨16, rfl, rfl⟩
          | 1, q1, q2 => cases q1; cases q2; exact ⟨11, rfl, rfl⟩
          | i + 2, q1, _ => simp at q1) (fun H1 x => ⟨x.ext _ _ (add_at un q.1) fnD_ne, x.ext _ _ (add_at un q.2.1) LamX.codeO_ne, x.tup (add_at un q.2.2)⟩) (lok_a6 X.cls Mb GbX bb) (fun H1 x1 _ Z2 E2 hE => ?_)
        have o1 := o.ex n1 n2 x1
        exact ⟨tb, a.dx, _, nv, rfl, o1.tt.ob, rfl, tb, nv, _, a, S', rfl, rfl, o1.tt, nhd, hE _ _ _ (err_of (by decide) rfl eHH) (Ex.refl o1.tab)⟩
      · obtain ⟨c', t', q⟩ := wk _ (.tail _ (.tail _ (.tail _ (.head _))))
        refine TGK.ref_of (ws := [some (.ref tb), some nv]) sc_a7 (fun y hy => sc_a7.free (y, .free) hy rfl) (fun y hy => hy) Tc un rfl rfl (fun i y v q1 q2 => by
          match i, q1, q2 with
          | 0, q1, q2 => cases q1; cases q2; exact ⟨16, rfl, rfl⟩
          | 1, q1, q2 => cases q1; cases q2; exact ⟨11, rfl, rfl⟩
          | i + 2, q1, _ => simp at q1) (fun H1 x => ⟨x.ext _ _ (add_at un q.1) fnD_ne, x.ext _ _ (add_at un q.2.1) LamX.codeO_ne, x.tup (add_at un q.2.2)⟩) (lok_a7 X.cls Mg GgX bg) (fun H1 x1 _ Z2 E2 hE => ?_)
        have o1 := o.ex n1 n2 x1
        exact ⟨tb, a.dx, _, nv, rfl, o1.tt.ob, rfl, tb, nv, _, a, S', rfl, rfl, o1.tt, nhd, hE _ _ _ (err_of (by decide) rfl eHH) (Ex.refl o1.tab)⟩
      · obtain ⟨c', t', q⟩ := wk _ (.tail _ (.tail _ (.head _)))
        refine TGK.ref_of (ws := [some (.ref tb), some nv]) sc_a8 (fun y hy => sc_a8.free (y, .free) hy rfl) (fun y hy => hy) Tc un rfl rfl (fun i y v q1 q2 => by
          match i, q1, q2 with
          | 0, q1, q2 => cases q1; cases q2; exact ⟨16, rfl, rfl⟩
          | 1, q1, q2 => cases q1; cases q2; exact ⟨11, rfl, rfl⟩
          | i + 2, q1, _ => simp at q1) (fun H1 x => ⟨x.ext _ _ (add_at un q.1) fnD_ne, x.ext _ _ (add_at un q.2.1) LamX.codeO_ne, x.tup (add_at un q.2.2)⟩) (lok_a8 X.cls Ml GlX bl) (fun H1 x1 _ Z2 E2 hE => ?_)
        have o1 := o.ex n1 n2 x1
        exact ⟨tb, a.dx, _, nv, rfl, o1.tt.ob, rfl, tb, nv, _, a, S', rfl, rfl, o1.tt, nhd, hE _ _ _ (err_of (by decide) rfl eHH) (Ex.refl o1.tab)⟩
      · obtain ⟨c', t', q⟩ := wk _ (.tail _ (.head _))
        refine TGK.ref_of (ws := [some (.ref tb), some nv]) sc_a9 (fun y hy => sc_a9.free (y, .free) hy rfl) (fun y hy => hy) Tc un rfl rfl (fun i y v q1 q2 => by
          match i, q1, q2 with
          | 0, q1, q2 => cases q1; cases q2; exact ⟨16, rfl, rfl⟩
          | 1, q1, q2 => cases q1; cases q2; exact ⟨11, rfl, rfl⟩
          | i + 2, q1, _ => simp at q1) (fun H1 x => ⟨x.ext _ _ (add_at un q.1) fnD_ne, x.ext _ _ (add_at un q.2.1) LamX.codeO_ne, x.tup (add_at un q.2.2)⟩) (lok_a9 X.cls Mr GrX br) (fun H1 x1 _ Z2 E2 hE => ?_)
        have o1 := o.ex n1 n2 x1
        exact ⟨tb, a.dx, _, nv, rfl, o1.tt.ob, rfl, tb, nv, _, a, S', rfl, rfl, o1.tt, nhd, hE _ _ _ (err_of (by decide) rfl eHH) (Ex.refl o1.tab)⟩
      · obtain ⟨c', t', q⟩ := wk _ (.head _)
        refine TGK.ref_of (ws := [some (.ref tb), some nv]) sc_a10 (fun y hy => sc_a10.free (y, .free) hy rfl) (fun y hy => hy) Tc un rfl rfl (fun i y v q1 q2 => by
          match i, q1, q2 with
          | 0, q1, q2 => cases q1; cases q2; exact ⟨16, rfl, rfl⟩
          | 1, q1, q2 => cases q1; cases q2; exact ⟨11, rfl, rfl⟩
          | i + 2, q1, _ => simp at q1) (fun H1 x => ⟨x.ext _ _ (add_at un q.1) fnD_ne, x.ext _ _ (add_at un q.2.1) LamX.codeO_ne, x.tup (add_at un q.2.2)⟩) (lok_a10 X.cls Ma GaX ba) (fun H1 x1 _ Z2 E2 hE => ?_)
        have o1 := o.ex n1 n2 x1
        exact ⟨tb, a.dx, _, nv, rfl, o1.tt.ob, rfl, tb, nv, _, a, S', rfl, rfl, o1.tt, nhd, hE _ _ _ (err_of (by decide) rfl eHH) (Ex.refl o1.tab)⟩
    have xd := TGK.ex_del un x
    have kz := kz.tr (Kp.ext xd.ext)
    have o := o.ex n1 n2 xd
    generalize delC H' cl = H44 at o kz ⊢
    clear hdd hw7 told x Tc yd ndd xd wk hw3 hw4 hw5 hw6 nhd
    -- what is no sign
    refine ⟨by show 1 ≤ sizeLine; decide, fun ta nta => ⟨by show 7 ≤ sizeLine; decide, fun q2 nq2 => ⟨_, rfl, b, l, 7, rfl, ?_, by decide, by decide, fun z2 H46 z20 z21 hB46 x46 => ?_⟩⟩⟩
    · exact box_new (box_new o.box nta) nq2
    have xa := Ex.laid (o := .tup [V.str "a"]) o.tab nta
    have hta := upd_same (H := H44) (a := ta) (o := .tup [V.str "a"])
    have o := o.ex n1 n2 xa
    have kz := kz.tr (Kp.ext xa.ext)
    generalize upd H44 ta (.tup [V.str "a"]) = H45 at o kz hta nq2 x46 ⊢
    have xq := Ex.laid (o := .lst [V.str "", V.str "ab", V.non, V.int 5, V.str "\t\t", V.ref ta, V.str "\n\n"]) o.tab nq2
    obtain ⟨nb2, nl2⟩ := new_ne o.box nq2
    have hq2 := x46 q2 _ upd_same nb2 nl2
    have hta := xq.tup hta
    have o := o.ex n1 n2 xq
    have kz := kz.tr (Kp.ext xq.ext)
    obtain ⟨o, kz2⟩ := o.draw (Z := Z) n1 n2 x46 hB46
    have hta := (kz2 hZb).tp _ _ hta
    have kz := kz.tr (kz2 hZb)
    obtain ⟨sv, hsv, esv⟩ := pick (xs := ([.str "", .str "ab", .non, .int 5, .str "\t\t", .ref ta, .str "\n\n"] : List V)) (i := z2) z20 z21
    refine ⟨q2, _, _, sv, rfl, rfl, SqL.of hq2, esv, ?_⟩
    clear hq2 nb2 nl2 esv xq xa nq2 nta x46 hB46 z20 z21 kz2
    -- it is pressed
    refine ⟨o.l2, fun f11 d11 H47 k1 k2 t11 nf hf hc => ⟨by show 1 ≤ sizeLine; decide, fun w8 nw8 => ⟨by show 2 ≤ sizeLine; decide, fun dd ndd cl Tc un => ?_⟩⟩⟩
    have lm : Lm p2 _ _ := ⟨k1, k2⟩
    have xe := lm.ext o.l2
    have kz := kz.tr (Kp.ext xe)
    have o := o.lam2 n2 np lm t11
    have hta := xe _ _ hta fun ps z => nomatch z
    have xw := Ex.laid (o := .lst [V.ref f11]) o.tab nw8
    have o := o.ex n1 n2 xw
    have yd := Ex.laid (o := .tup [V.str "BadCell", V.int 0]) o.tab ndd
    have o := o.ex n1 n2 yd
    have xy := xw.trans yd
    have kz := kz.tr (Kp.ext xy.ext)
    have hta := xy.tup hta
    have hw8 := yd.lst (upd_same (H := H47) (a := w8) (o := .lst [V.ref f11]))
    have hdd := upd_same (H := upd H47 w8 (.lst [V.ref f11])) (a := dd) (o := .tup [V.str "BadCell", V.int 0])
    have q : HfL f11 ⟨"<lambda>", q2S, la11.1, [], la11.2.2, cloFrom (cxOf CX0 P w K mg base nmLaw "law" (defScope s_law) f (.ref cd) A outer s H E).nox.env.cells la11.2.2.names [], d11⟩ la11.2.1 _ := ⟨xy.ext _ _ hf fnL_ne, xy.ext _ _ hc LamX.codeO_ne⟩
    generalize upd (upd H47 w8 (.lst [V.ref f11])) dd (.tup [V.str "BadCell", V.int 0]) = H48 at o kz hta hw8 hdd q un ⊢
    refine ⟨w8, dd, [f11], 3, 0, rfl, tabs_addC o.tab un, add_at un hw8, add_at un hdd, fun f hf => ?_, fun H' x told => ⟨true, rfl, iteF ?_⟩⟩
    · rw [List.mem_singleton.mp hf]
      refine TGK.ref_of (ws := [some (.ref tb), some (.int (h : Nat)), some sv]) sc_a11 (fun y hy => sc_a11.free (y, .free) hy rfl) (fun y hy => hy) Tc un rfl rfl (fun i y v q1 q2 => by
          match i, q1, q2 with
          | 0, q1, q2 => cases q1; cases q2; exact ⟨16, rfl, rfl⟩
          | 1, q1, q2 => cases q1; cases q2; exact ⟨9, rfl, rfl⟩
          | 2, q1, q2 => cases q1; cases q2; exact ⟨14, rfl, rfl⟩
          | i + 3, q1, _ => simp at q1) (fun H1 x => ⟨x.ext _ _ (add_at un q.1) fnL_ne, x.ext _ _ (add_at un q.2) LamX.codeO_ne⟩) (lok_a11 X.cls Mw GwB bw) (fun H1 x1 _ Z2 E2 hE => ?_)
      have o1 := o.ex n1 n2 x1
      exact ⟨tb, a.dx, _, .int (h : Nat), sv, rfl, o1.tt.ob, rfl, tb, h, sv, a, S', rfl, o1.tab, o1.tt, by rw [sn]; exact hh, sign_no (x1.tup hta) sv hsv, fun H2 x2 => hE _ _ _ (err_of (by decide) rfl eC) x2⟩
    have xd := TGK.ex_del un x
    have kz := kz.tr (Kp.ext xd.ext)
    have o := o.ex n1 n2 xd
    generalize delC H' cl = H49 at o kz ⊢
    clear hdd hw8 told x Tc yd ndd xd q xw xy nw8 hta hsv lm k1 k2 t11 nf hf hc xe
    -- too much
    have hbf1 := kz.ls bf _ Zbf hbf
    have hr01 := kz.ls r0 _ Zr0 hr0
    refine ⟨_, rfl, _, rfl, _, rfl, bf, _, _, .ref r0, rfl, rfl, SqL.of hbf1, at0, b, l, st, tb, gap, least, a, S', O, n0, h, r0, ps, rfl, o, t, by rw [sn]; exact hh, hP, l1, l2, hr01, ⟨hrow.len, fun i q z e1 e2 => kz.tp _ _ (hrow.row i q z e1 e2)⟩, fun H50 o50 kq => ⟨true, rfl, iteF ?_⟩⟩
    have kz := kz.tr (kq Z fun c z e => by
      obtain ⟨us, eu⟩ := hZ0 c z
      rw [kz.ls c us z eu] at e
      cases e)
    have o := o50
    clear o50 kq hbf1 hr01
    -- nothing changed
    obtain ⟨sh1, sh2⟩ := shaped_shown (gap := gap) (least := least) (n := n) hP dm
    refine ⟨_, rfl, _, rfl, tb, a, S', O, n0, n, gap, least, rfl, o.tab, o.tt, t, hP, by rw [o.est]; exact o.sty, sn, fun r2 r3 ps2 ws2 H51 x51 _ _ dz2 _ _ _ => ?_⟩
    have o := o.ex n1 n2 x51
    have kz := kz.tr (Kp.ext x51.ext)
    refine ⟨_, rfl, _, _, dz2.dp, (dz.kp kz).dp, sh1, sh1, ?_⟩
    rw [sh2]
    refine ⟨false, rfl, iteF ?_⟩
    clear dz2 x51 sh1 sh2
    -- a good sign
    refine ⟨_, rfl, b, l, rfl, o.box, fun c0 H52 hc0 hB52 x52 => ⟨by show 3 ≤ sizeLine; decide, fun q3 nq3 => ⟨_, rfl, b, l, 3, rfl, box_new hB52 nq3, by decide, by decide, fun z3 H53 z30 z31 hB53 x53 => ?_⟩⟩⟩
    obtain ⟨o, kz2⟩ := o.draw (Z := Z) n1 n2 x52 hB52
    have kz := kz.tr (kz2 hZb)
    have xq := Ex.laid (o := .lst [V.str ⟨#[c0]⟩, V.str "\t", V.str "\n"]) o.tab nq3
    obtain ⟨nb3, nl3⟩ := new_ne o.box nq3
    have hq3 := x53 q3 _ upd_same nb3 nl3
    have o := o.ex n1 n2 xq
    have kz := kz.tr (Kp.ext xq.ext)
    obtain ⟨o, kz2⟩ := o.draw (Z := Z) n1 n2 x53 hB53
    have kz := kz.tr (kz2 hZb)
    obtain ⟨gv, hgv, egv⟩ := pick (xs := ([.str ⟨#[c0]⟩, .str "\t", .str "\n"] : List V)) (i := z3) z30 z31
    obtain ⟨gz, rfl, hs⟩ : ∃ z : Str, gv = .str z ∧ MarkOk z := by
      simp only [List.mem_cons, List.not_mem_nil, or_false] at hgv
      rcases hgv with e | e | e
      · exact ⟨_, e, mark_of (.inl hc0)⟩
      · exact ⟨_, e, .inl rfl⟩
      · exact ⟨_, e, .inr (.inl rfl)⟩
    refine ⟨q3, _, _, .str gz, rfl, rfl, SqL.of hq3, egv, ?_⟩
    clear hq3 nb3 nl3 hgv egv xq nq3 x52 x53 hB52 hB53 z30 z31 kz2 hc0
    have hsp : h < S'.spots.length := by rw [sn]; exact hh
    refine' cutS _ (fun σ H' => ∃ (a2 : TA) (S2 : TSt), σ = [some (.ref sc), some (.ref b), some (.int wy), some (.int fr), some (.ref w5), some (.int (0 + (i : Nat))), c6, some (.ref bf), some (.str gz), some (.int (h : Nat)), some (.int (n : Nat)), some nv, some od, some (.ref pg), some sv, some (.ref st), some (.ref tb)] ∧ SitT K cs B p1 p2 b l st tb gap least a2 S2 H' ∧ Aft S' S2 n0 h n ∧ Kp Z H29 H') (fun rest => _) _
    rotate_left
    · refine ⟨o.l2, fun f12 d12 H54 k1 k2 t11 nf hf hc cl Tc un => ?_⟩
      have lm : Lm p2 _ _ := ⟨k1, k2⟩
      have xe := lm.ext o.l2
      have kz := kz.tr (Kp.ext xe)
      have o := o.lam2 n2 np lm t11
      have hf1 : HfL f12 _ _ H54 := ⟨hf, hc⟩
      refine TGK.tellsR (ws := [some (.ref tb), some (.int (h : Nat)), some (.str gz)]) sc_a12 (fun y hy => sc_a12.free (y, .free) hy rfl) (fun y hy => hy) Tc un rfl rfl (fun i y v q1 q2 => by
          match i, q1, q2 with
          | 0, q1, q2 => cases q1; cases q2; exact ⟨16, rfl, rfl⟩
          | 1, q1, q2 => cases q1; cases q2; exact ⟨9, rfl, rfl⟩
          | 2, q1, q2 => cases q1; cases q2; exact ⟨8, rfl, rfl⟩
          | i + 3, q1, _ => simp at q1) (TGK.hfL_add un hf1) (lok_a12 X.cls Mw GwT bw) fun Z2 E2 hZ2 hE => ?_
      refine ⟨tb, a.dx, _, .int (h : Nat), .str gz, rfl, o.tt.ob, rfl, tb, h, gz, a, S', rfl, o.tab, o.tt, t.tok, hsp, hs, t.setP hsp hs l1 l2, fun hp a2 H55 es kn ow t55 old td => ?_, fun hnp H55 x55 => ?_⟩
      rotate_left
      · rw [eTM]
        refine hE 10 H55 (by decide) rfl x55.tab fun T H56 x56 nT hu hTt _ => ?_
        rw [TGK.del_add hu]
        refine ⟨rfl, false, dF (fun e => nomatch e), iteF (iteF ?_)⟩
        have x := x55.trans x56
        exact rest _ _ ⟨a, S', rfl, o.ex n1 n2 x, Aft.same t hsp sn hP dm, kz.tr (Kp.ext x.ext)⟩
      · refine hZ2 _ _ fun hu _ => ?_
        rw [TGK.del_add hu]
        refine ⟨rfl, true, dT rfl, iteT ?_⟩
        obtain ⟨g1, g2, g3⟩ := t.press hsp hs l1 l2
        have hZl : ∀ c, Z c → H54 c ≠ none := fun c z e => by
          obtain ⟨us, eu⟩ := hZ0 c z
          rw [kz.ls c us z eu] at e
          cases e
        obtain ⟨o2, kz2⟩ := o.table (Z := Z) n1 n2 es kn ow t55 td
        have kz := kz.tr (kz2 hZo)
        refine ⟨_, rfl, tb, a2.dx, _, rfl, o2.tt.ob, rfl, _, rfl, tb, h, a2, pressR S' h gz, rfl, o2.tab, o2.tt, g1.tok, by rw [g3]; exact hsp, fun k _ => t.backS hsp hs l1 l2 k, fun _ a3 H56 es3 kn3 ow3 t56 old3 td3 => ?_, fun k hk hn => absurd (t.backG hsp hs l1 l2 hP hk) hn⟩
        obtain ⟨b1, b2⟩ := t.back hsp hs l1 l2
        obtain ⟨o3, kz3⟩ := o2.table (Z := Z) n1 n2 es3 kn3 ow3 t56 td3
        have kz := kz.tr (kz3 fun c z hc => (ow c hc).elim (hZo c z) (hZl c z))
        rw [b1]
        refine ⟨_, _, rfl, rfl, _, rfl, iteF ?_⟩
        rw [t.pgP hsp hs l1 l2] at hp
        exact rest _ _ ⟨a3, _, rfl, o3, Aft.off b2 t hsp sn hs l1 l2 hp dm, kz⟩
    clear o kz
    rintro σ H57 ⟨a2, S2, rfl, o, af, kz⟩
    -- the page is as before
    have hbf1 := kz.ls bf _ Zbf hbf
    have hr01 := kz.ls r0 _ Zr0 hr0
    refine ⟨_, rfl, tb, a2.dx, _, rfl, o.tt.ob, rfl, tb, a2, S2, rfl, o.tab, o.tt, af.tok, fun r4 ps4 H58 x58 _ hr4 hrow4 => ?_⟩
    have hrow4 : RowsAt ps4 (rowsT (txt S')) H58 := by rw [← af.tx]; exact hrow4
    obtain ⟨sh1, sh2⟩ := shaped_page hP
    have o := o.ex n1 n2 x58
    refine ⟨_, rfl, bf, _, _, .ref r0, rfl, rfl, SqL.of (x58.lst hbf1), at0, .list (rowsD (rowsT (txt S'))), .list (rowsD (rowsT (txt S'))), (dpz_page (Z := fun _ => True) hr4 trivial hrow4).dp, (dpz_page (Z := fun _ => True) (x58.lst hr01) trivial ⟨hrow.len, fun i q z e1 e2 => x58.tup (kz.tp _ _ (hrow.row i q z e1 e2))⟩).dp, sh1, sh1, ?_⟩
    rw [sh2]
    refine ⟨false, rfl, iteF ?_⟩
    refine ⟨_, rfl, tb, a2.dx, _, rfl, o.tt.ob, rfl, _, rfl, tb, h, a2, S2, rfl, o.tab, o.tt, af.tok, af.hh, af.set, fun _ a3 H59 es kn ow t59 old td => ?_, fun k hk hn => absurd (af.pg k hk) hn⟩
    obtain ⟨O', g1, g2, g3, g4, g5, g6⟩ := af.nx
    obtain ⟨o, _⟩ := o.table (Z := fun _ => False) n1 n2 es kn ow t59 td
    exact ⟨_, _, _, _, _, _, _, _, a3, _, O', n0, rfl, g1, g3, g2, by omega, by omega, g6, o⟩
end
end TG

namespace TG
open PySem PySem.Spec PyProof.Rows L2 Gx
section
variable {P : Program} {w : World} {K : PySem.W.Frag} {mg : Str → Option Value} {base : Heap} {k : Nat} {f : Addr} {fd : FuncData} {ps : List Str} {sp : Sp}
/-- a def that never raises, among those that may -/
theorem fnX_of (F : FnOk P w K mg base CX0 k f fd ps sp) : FnOk P w K mg base (L2.CX P w) k f fd ps sp := by
  refine ⟨F.len, fun A outer s H args us vs Q E hr e0 b r h => ?_⟩
  refine codeAny_mono (F.run A outer s H args us vs Q E hr e0 b r h) fun r' s' hq => ?_
  cases r' with
  | error er => exact False.elim hq
  | ok fl =>
    cases fl with
    | ret u => exact hq
    | next => exact hq
    | brk => exact False.elim hq
    | cont => exact False.elim hq
end
end TG

namespace TG
open PySem PySem.Spec PyProof.Rows L2
/-! ### the head -/
theorem const_of : True := trivial
theorem excCB_ok {K : PySem.W.Frag} {D : Addr} (h : excCB K D = true) : ExcC K D := by
  obtain ⟨h1, h⟩ := He.ba h
  obtain ⟨h2, h⟩ := He.ba h
  obtain ⟨h3, h⟩ := He.ba h
  obtain ⟨h4, h⟩ := He.ba h
  obtain ⟨h5, h⟩ := He.ba h
  obtain ⟨h6, h⟩ := He.ba h
  obtain ⟨h7, h8⟩ := He.ba h
  exact ⟨He.eqO_ok h1, He.eqO_ok h2, of_decide_eq_true h3, h4, He.eqO_ok h5, He.eqO_ok h6, of_decide_eq_true h7, of_decide_eq_true h8⟩
theorem errs_of {K : PySem.W.Frag} {h : Heap} {mg : Str → Option Value} (X : K.In h) (G : h.Ns mainGlobals mg) (c : He.SaysD faL fnL K) (e : errsB K = true) : Errs K mg := by
  have at_ : ∀ j, j < 11 → _ := fun j hj => List.all_eq_true.mp e j (List.mem_range.mpr hj)
  refine ⟨fun j hj => ?_, He.glo_ok X G (c.facts (by simp [faL])), fun j hj => excCB_ok (He.ba (at_ j hj)).1, fun j hj => of_decide_eq_true (He.ba (He.ba (at_ j hj)).2).1, fun j hj => of_decide_eq_true (He.ba (He.ba (He.ba (at_ j hj)).2).2).1, fun i j hi hj => ?_, fun j hj hn => ?_, He.free_ok X G (c.facts (by simp [faL]))⟩
  · have : ∀ x ∈ excNm, mg x = some (.ref (He.ga K x)) := by
      intro x hx
      simp only [excNm, List.mem_cons, List.not_mem_nil, or_false] at hx
      rcases hx with rfl | rfl | rfl | rfl | rfl | rfl | rfl | rfl | rfl | rfl | rfl <;> exact He.glo_ok X G (c.facts (by simp [faL]))
    refine this _ ?_
    have h2 : j < excNm.length := hj
    simp only [nmE, List.getD, List.getElem?_eq_getElem h2, Option.getD_some]
    exact List.getElem_mem h2
  · have z := (He.ba (He.ba (He.ba (He.ba (at_ i hi)).2).2).2).1
    exact of_decide_eq_true (List.all_eq_true.mp z j (List.mem_range.mpr hj))
  · have z := (He.ba (He.ba (He.ba (He.ba (at_ j hj)).2).2).2).2
    rcases Bool.or_eq_true_iff.mp z with q | q
    · exact absurd (of_decide_eq_true q) hn
    · exact He.eqO_ok q
theorem subL {K : PySem.W.Frag} {q : Addr × Addr} (h : q ∈ tfB.map (He.cT K)) : q ∈ tfL.map (He.cT K) := by
  unfold tfL
  rw [List.map_append]
  exact List.mem_append_left _ h
theorem memL {K : PySem.W.Frag} {r : He.Defn} (h : r ∈ lmL) : He.cT K r ∈ tfL.map (He.cT K) := by
  unfold tfL
  rw [List.map_append]
  exact List.mem_append_right _ (List.mem_map_of_mem h)
theorem ne_of_ex {K : PySem.W.Frag} (h : exL K = true) {r : He.Defn} (hr : r ∈ lmL) : ApartT (tfB.map (He.cT K)) (He.cT K r).2 := fun q hq => by
  obtain ⟨d, hd, rfl⟩ := List.mem_map.mp hq
  have z := (Bool.and_eq_true_iff.mp (List.all_eq_true.mp h r hr)).1
  have z := List.all_eq_true.mp z d hd
  simpa using z
theorem ne_of_ex2 {K : PySem.W.Frag} (h : exL K = true) {r q : He.Defn} (hr : r ∈ lmL) (hq : q ∈ lmL) (n : q ≠ r) : (He.cT K q).2 ≠ (He.cT K r).2 := by
  have z := (Bool.and_eq_true_iff.mp (List.all_eq_true.mp h r hr)).2
  have z := List.all_eq_true.mp z q hq
  simpa [n] using z
theorem fun_of {K : PySem.W.Frag} {x : Str} {st : Stmt} {f : Addr} {fd : FuncData} (F : FunD K x x (defArgs st) (defBody st) (defScope st) [] [] f fd) : Fun K x x st f fd := by
  obtain ⟨⟨oc, od, dV, kV, doc, pm, an, cdv, ct, osl, e, lk, hcd, hd, _⟩, kp⟩ := F
  rcases hd with ⟨_, hd⟩ | ⟨hd, _⟩
  · subst hd
    exact ⟨⟨oc, od, kV, doc, pm, an, cdv, ct, osl, e, lk, hcd⟩, kp⟩
  · exact absurd rfl hd
/-- a def of the top, by its name -/
structure At (K : PySem.W.Frag) (mg : Str → Option Value) (x : Str) (st : Stmt) (fd : FuncData) : Prop where
  mg_ : mg x = some (.ref (He.ga K x))
  fn : Fun K x x st (He.ga K x) fd
theorem At.kp {K : PySem.W.Frag} {mg : Str → Option Value} {x : Str} {st : Stmt} {fd : FuncData} (a : At K mg x st fd) : PySem.W.keepIn K (.ref (He.ga K x)) = true := a.fn.kp
theorem fun_ofm {K : PySem.W.Frag} {x q : Str} {st : Stmt} {f : Addr} {fd : FuncData} (F : FunD K x q (defArgs st) (defBody st) (defScope st) [] [] f fd) : Fun K x q st f fd := by
  obtain ⟨⟨oc, od, dV, kV, doc, pm, an, cdv, ct, osl, e, lk, hcd, hd, _⟩, kp⟩ := F
  rcases hd with ⟨_, hd⟩ | ⟨hd, _⟩
  · subst hd
    exact ⟨⟨oc, od, kV, doc, pm, an, cdv, ct, osl, e, lk, hcd⟩, kp⟩
  · exact absurd rfl hd
theorem atm_of {fa : List He.Fa} {fn : List He.DefD} {K : PySem.W.Frag} (c : He.SaysD fa fn K) {k i : Nat} {C m : Str} (hd : dm k i C m ∈ fn) : ∃ fd, Fun K m (C ++ "." ++ m) (mth k i) (He.ma K (He.ga K C) m) fd := by
  obtain ⟨fd, F⟩ := c.defs hd
  exact ⟨fd, fun_ofm F⟩
theorem at_of {fa : List He.Fa} {fn : List He.DefD} {K : PySem.W.Frag} {h : Heap} {mg : Str → Option Value} (X : K.In h) (G : h.Ns mainGlobals mg) (c : He.SaysD fa fn K) {i : Nat} {x : Str} (hd : dd i x ∈ fn) (hf : He.Fa.glo x ∈ fa) : ∃ fd, At K mg x (top i) fd := by
  obtain ⟨fd, F⟩ := c.defs hd
  exact ⟨fd, He.glo_ok X G (c.facts hf), fun_of F⟩
theorem code_of {K : PySem.W.Frag} {mg : Str → Option Value} {x : Str} {st : Stmt} {fd : FuncData} (a : At K mg x st fd) : fd.code = .ref (He.cT K (x, none)).1 := by
  obtain ⟨oc, od, kV, doc, pm, an, cdv, ct, osl, e, lk, hcd⟩ := a.fn.ex
  obtain ⟨c, hc⟩ := He.codeIn_ref hcd
  have e2 : fd.code = .ref c := by rw [e, ← hc]
  have e3 : He.codeOf K (x, none) = c := He.codeOf_eq (p := (x, none)) lk e2
  show fd.code = .ref (He.codeOf K (x, none))
  rw [e3, e2]
theorem tab_conv {base : Heap} {mg : Str → Option Value} {c P : Addr} (t : LamX.TabB base mg c P) : GxR.TabB base mg c P := ⟨t.code, t.bm, t.gP⟩

theorem txt_of {K : PySem.W.Frag} {h : Heap} {mg : Str → Option Value} (X : K.In h) (G : h.Ns mainGlobals mg) (c : He.SaysD faL fnL K) : Txt mg := by
  constructor
  all_goals exact He.free_ok X G (c.facts (by simp [faL]))
theorem consts_of {K : PySem.W.Frag} {h : Heap} {mg : Str → Option Value} (X : K.In h) (G : h.Ns mainGlobals mg) (c : He.SaysD faL fnL K) : Consts mg := by
  constructor
  all_goals exact He.int_ok X G (c.facts (by simp [faL]))
theorem triples_nil : TriplesOk (#[] : Array Value).toList := trivial
theorem facts {w : World} {K : PySem.W.Frag} {h : Heap} {mg : Str → Option Value} {f : Addr} (X : K.In h) (G : h.Ns mainGlobals mg) (hfa : mg ("law" : Str) = some (.ref f)) (c : He.SaysX faL fnL [] tfL exC w h K) :
    LamX.LawAtS PySem.Challenge.rw_tabgrow_k33_hands_refused w K CX0 23 63 "_law_script" mg f h := by
  have cd := c.t.d
  have T := txt_of X G cd
  have N := consts_of X G cd
  obtain ⟨me, mf⟩ := He.ba c.more
  have ne0 := ne_of_ex me (r := ("_law_too_much", none)) (by simp [lmL])
  have ne := ne_of_ex me (r := ("law", none)) (by simp [lmL])
  have nn01 := ne_of_ex2 me (r := ("_law_too_much", none)) (q := ("law", none)) (by simp [lmL]) (by simp [lmL]) (by decide)
  have nn10 := ne_of_ex2 me (r := ("law", none)) (q := ("_law_too_much", none)) (by simp [lmL]) (by simp [lmL]) (by decide)
  have hz : mg "zip" = none := He.free_ok X G (cd.facts (by simp [faL]))
  have hz_ValueError : mg "ValueError" = none := He.free_ok X G (cd.facts (by simp [faL]))
  obtain ⟨d24, a24⟩ := at_of X G cd (i := 24) (x := "is_whole") (by simp [fnL]) (by simp [faL])
  have b24 := a24.fn.binds (ps := ["value", "low", "high"]) fun _ _ _ _ _ _ us hl => match us, hl with | [_, _, _], _ => rfl
  obtain ⟨d25, a25⟩ := at_of X G cd (i := 25) (x := "is_sign") (by simp [fnL]) (by simp [faL])
  have b25 := a25.fn.binds (ps := ["sign"]) fun _ _ _ _ _ _ us hl => match us, hl with | [_], _ => rfl
  obtain ⟨d26, a26⟩ := at_of X G cd (i := 26) (x := "is_text_of_signs") (by simp [fnL]) (by simp [faL])
  have b26 := a26.fn.binds (ps := ["value", "most"]) fun _ _ _ _ _ _ us hl => match us, hl with | [_, _], _ => rfl
  obtain ⟨d27, a27⟩ := at_of X G cd (i := 27) (x := "is_filled") (by simp [fnL]) (by simp [faL])
  have b27 := a27.fn.binds (ps := ["value", "most"]) fun _ _ _ _ _ _ us hl => match us, hl with | [_, _], _ => rfl
  obtain ⟨d28, a28⟩ := at_of X G cd (i := 28) (x := "is_row") (by simp [fnL]) (by simp [faL])
  have b28 := a28.fn.binds (ps := ["value"]) fun _ _ _ _ _ _ us hl => match us, hl with | [_], _ => rfl
  obtain ⟨d29, a29⟩ := at_of X G cd (i := 29) (x := "first_misfit") (by simp [fnL]) (by simp [faL])
  have b29 := a29.fn.binds (ps := ["rows"]) fun _ _ _ _ _ _ us hl => match us, hl with | [_], _ => rfl
  obtain ⟨d30, a30⟩ := at_of X G cd (i := 30) (x := "check_page") (by simp [fnL]) (by simp [faL])
  have b30 := a30.fn.binds (ps := ["page"]) fun _ _ _ _ _ _ us hl => match us, hl with | [_], _ => rfl
  obtain ⟨d31, a31⟩ := at_of X G cd (i := 31) (x := "check_style") (by simp [fnL]) (by simp [faL])
  have b31 := a31.fn.binds (ps := ["style"]) fun _ _ _ _ _ _ us hl => match us, hl with | [_], _ => rfl
  obtain ⟨d33, a33⟩ := at_of X G cd (i := 33) (x := "stretches") (by simp [fnL]) (by simp [faL])
  have b33 := a33.fn.binds (ps := ["page", "style"]) fun _ _ _ _ _ _ us hl => match us, hl with | [_, _], _ => rfl
  obtain ⟨d34, a34⟩ := at_of X G cd (i := 34) (x := "closed_runs") (by simp [fnL]) (by simp [faL])
  have b34 := a34.fn.binds (ps := ["page", "column"]) fun _ _ _ _ _ _ us hl => match us, hl with | [_, _], _ => rfl
  obtain ⟨d35, a35⟩ := at_of X G cd (i := 35) (x := "is_closed") (by simp [fnL]) (by simp [faL])
  have b35 := a35.fn.binds (ps := ["row", "column"]) fun _ _ _ _ _ _ us hl => match us, hl with | [_, _], _ => rfl
  obtain ⟨d36, a36⟩ := at_of X G cd (i := 36) (x := "described") (by simp [fnL]) (by simp [faL])
  have b36 := a36.fn.binds (ps := ["page", "style", "column", "begin", "end"]) fun _ _ _ _ _ _ us hl => match us, hl with | [_, _, _, _, _], _ => rfl
  obtain ⟨d37, a37⟩ := at_of X G cd (i := 37) (x := "stands_right") (by simp [fnL]) (by simp [faL])
  have b37 := a37.fn.binds (ps := ["cells"]) fun _ _ _ _ _ _ us hl => match us, hl with | [_], _ => rfl
  obtain ⟨d38, a38⟩ := at_of X G cd (i := 38) (x := "is_figures") (by simp [fnL]) (by simp [faL])
  have b38 := a38.fn.binds (ps := ["cell"]) fun _ _ _ _ _ _ us hl => match us, hl with | [_], _ => rfl
  obtain ⟨d40, a40⟩ := at_of X G cd (i := 40) (x := "laid") (by simp [fnL]) (by simp [faL])
  have b40 := a40.fn.binds (ps := ["page", "style"]) fun _ _ _ _ _ _ us hl => match us, hl with | [_, _], _ => rfl
  obtain ⟨d41, a41⟩ := at_of X G cd (i := 41) (x := "closed_cells") (by simp [fnL]) (by simp [faL])
  have b41 := a41.fn.binds (ps := ["page", "style"]) fun _ _ _ _ _ _ us hl => match us, hl with | [_, _], _ => rfl
  obtain ⟨d42, a42⟩ := at_of X G cd (i := 42) (x := "left_ends") (by simp [fnL]) (by simp [faL])
  have b42 := a42.fn.binds (ps := ["closed"]) fun _ _ _ _ _ _ us hl => match us, hl with | [_], _ => rfl
  obtain ⟨d43, a43⟩ := at_of X G cd (i := 43) (x := "begins_of") (by simp [fnL]) (by simp [faL])
  have b43 := a43.fn.binds (ps := ["row", "closed", "gap"]) fun _ _ _ _ _ _ us hl => match us, hl with | [_, _, _], _ => rfl
  obtain ⟨d45, a45⟩ := at_of X G cd (i := 45) (x := "written") (by simp [fnL]) (by simp [faL])
  have b45 := a45.fn.binds (ps := ["page"]) fun _ _ _ _ _ _ us hl => match us, hl with | [_], _ => rfl
  obtain ⟨d46, a46⟩ := at_of X G cd (i := 46) (x := "rows_of") (by simp [fnL]) (by simp [faL])
  have b46 := a46.fn.binds (ps := ["text"]) fun _ _ _ _ _ _ us hl => match us, hl with | [_], _ => rfl
  obtain ⟨d50, a50⟩ := at_of X G cd (i := 50) (x := "check_mark") (by simp [fnL]) (by simp [faL])
  have b50 := a50.fn.binds (ps := ["sign"]) fun _ _ _ _ _ _ us hl => match us, hl with | [_], _ => rfl
  obtain ⟨d51, a51⟩ := at_of X G cd (i := 51) (x := "marks_there") (by simp [fnL]) (by simp [faL])
  have b51 := a51.fn.binds (ps := ["many", "deeds"]) fun _ _ _ _ _ _ us hl => match us, hl with | [_, _], _ => rfl
  obtain ⟨d52, a52⟩ := at_of X G cd (i := 52) (x := "those_there") (by simp [fnL]) (by simp [faL])
  have b52 := a52.fn.binds (ps := ["order", "there"]) fun _ _ _ _ _ _ us hl => match us, hl with | [_, _], _ => rfl
  obtain ⟨d53, a53⟩ := at_of X G cd (i := 53) (x := "text_of") (by simp [fnL]) (by simp [faL])
  have b53 := a53.fn.binds (ps := ["signs", "marks"]) fun _ _ _ _ _ _ us hl => match us, hl with | [_, _], _ => rfl
  obtain ⟨d54, a54⟩ := at_of X G cd (i := 54) (x := "first_there") (by simp [fnL]) (by simp [faL])
  have b54 := a54.fn.binds (ps := ["order", "there", "spot"]) fun _ _ _ _ _ _ us hl => match us, hl with | [_, _, _], _ => rfl
  obtain ⟨d56, a56⟩ := at_of X G cd (i := 56) (x := "_law_begun") (by simp [fnL]) (by simp [faL])
  have b56 := a56.fn.binds (ps := ["_law_script"]) fun _ _ _ _ _ _ us hl => match us, hl with | [_], _ => rfl
  obtain ⟨d57, a57⟩ := at_of X G cd (i := 57) (x := "_law_take") (by simp [fnL]) (by simp [faL])
  have b57 := a57.fn.binds (ps := ["_law_box", "_law_many"]) fun _ _ _ _ _ _ us hl => match us, hl with | [_, _], _ => rfl
  obtain ⟨d58, a58⟩ := at_of X G cd (i := 58) (x := "_law_alike") (by simp [fnL]) (by simp [faL])
  have b58 := a58.fn.binds (ps := ["_law_found", "_law_due"]) fun _ _ _ _ _ _ us hl => match us, hl with | [_, _], _ => rfl
  obtain ⟨d59, a59⟩ := at_of X G cd (i := 59) (x := "_law_told") (by simp [fnL]) (by simp [faL])
  have b59 := a59.fn.binds (ps := ["_law_work"]) fun _ _ _ _ _ _ us hl => match us, hl with | [_], _ => rfl
  obtain ⟨d60, a60⟩ := at_of X G cd (i := 60) (x := "_law_all") (by simp [fnL]) (by simp [faL])
  have b60 := a60.fn.binds (ps := ["_law_works", "_law_due"]) fun _ _ _ _ _ _ us hl => match us, hl with | [_, _], _ => rfl
  obtain ⟨d61, a61⟩ := at_of X G cd (i := 61) (x := "_law_sign") (by simp [fnL]) (by simp [faL])
  have b61 := a61.fn.binds (ps := ["_law_box"]) fun _ _ _ _ _ _ us hl => match us, hl with | [_], _ => rfl
  obtain ⟨d62, a62⟩ := at_of X G cd (i := 62) (x := "_law_cell") (by simp [fnL]) (by simp [faL])
  have b62 := a62.fn.binds (ps := ["_law_box", "_law_sort"]) fun _ _ _ _ _ _ us hl => match us, hl with | [_, _], _ => rfl
  obtain ⟨d63, a63⟩ := at_of X G cd (i := 63) (x := "_law_row") (by simp [fnL]) (by simp [faL])
  have b63 := a63.fn.binds (ps := ["_law_box", "_law_sorts", "_law_many"]) fun _ _ _ _ _ _ us hl => match us, hl with | [_, _, _], _ => rfl
  obtain ⟨d64, a64⟩ := at_of X G cd (i := 64) (x := "_law_page") (by simp [fnL]) (by simp [faL])
  have b64 := a64.fn.binds (ps := ["_law_box", "_law_most"]) fun _ _ _ _ _ _ us hl => match us, hl with | [_, _], _ => rfl
  obtain ⟨d65, a65⟩ := at_of X G cd (i := 65) (x := "_law_style") (by simp [fnL]) (by simp [faL])
  have b65 := a65.fn.binds (ps := ["_law_box"]) fun _ _ _ _ _ _ us hl => match us, hl with | [_], _ => rfl
  obtain ⟨d66, a66⟩ := at_of X G cd (i := 66) (x := "_law_first") (by simp [fnL]) (by simp [faL])
  have b66 := a66.fn.binds (ps := ["_law_box", "_law_way"]) fun _ _ _ _ _ _ us hl => match us, hl with | [_, _], _ => rfl
  obtain ⟨d67, a67⟩ := at_of X G cd (i := 67) (x := "_law_shown") (by simp [fnL]) (by simp [faL])
  have b67 := a67.fn.binds (ps := ["_law_table", "_law_hands"]) fun _ _ _ _ _ _ us hl => match us, hl with | [_, _], _ => rfl
  obtain ⟨d68, a68⟩ := at_of X G cd (i := 68) (x := "_law_too_much") (by simp [fnL]) (by simp [faL])
  have b68 := a68.fn.binds (ps := ["_law_table", "_law_hand", "_law_page_here"]) fun _ _ _ _ _ _ us hl => match us, hl with | [_, _, _], _ => rfl
  obtain ⟨d69, a69⟩ := at_of X G cd (i := 69) (x := "law") (by simp [fnL]) (by simp [faL])
  have b69 := a69.fn.binds (ps := ["_law_script"]) fun _ _ _ _ _ _ us hl => match us, hl with | [_], _ => rfl
  have hf : ∀ {x : He.Fa}, x ∈ faL → He.Fa.ok K x = true := fun h => cd.facts h
  have Xc : TabC K (He.ga K "Table") := ⟨He.cls_ok (hf (x := .cls "Table") (by simp [faL])), He.noat_ok (hf (x := .noat "Table" "style") (by simp [faL])), He.noat_ok (hf (x := .noat "Table" "signs") (by simp [faL])), He.noat_ok (hf (x := .noat "Table" "order") (by simp [faL])), He.noat_ok (hf (x := .noat "Table" "there") (by simp [faL])), He.noat_ok (hf (x := .noat "Table" "deeds") (by simp [faL])), He.noat_ok (hf (x := .noat "Table" "spots") (by simp [faL])), He.noat_ok (hf (x := .noat "Table" "undone") (by simp [faL]))⟩
  have Ers := errs_of X G cd mf
  have e_ErB := He.exc_ok (hf (x := .exc "BadCell") (by simp [faL]))
  have ErB : ErrC K mg "BadCell" (He.ga K "BadCell") (He.ga K "GrowError") := ⟨He.glo_ok X G (hf (x := .glo "BadCell") (by simp [faL])), e_ErB.1, e_ErB.2.1, e_ErB.2.2.1, e_ErB.2.2.2, He.exm_ok (hf (x := .exm "BadCell" "GrowError" true) (by simp [faL]))⟩
  have e_Er := He.exc_ok (hf (x := .exc "TooMuch") (by simp [faL]))
  have Er : ErrC K mg "TooMuch" (He.ga K "TooMuch") (He.ga K "GrowError") := ⟨He.glo_ok X G (hf (x := .glo "TooMuch") (by simp [faL])), e_Er.1, e_Er.2.1, e_Er.2.2.1, e_Er.2.2.2, He.exm_ok (hf (x := .exm "TooMuch" "GrowError" true) (by simp [faL]))⟩
  have e_ErH := He.exc_ok (hf (x := .exc "BadHand") (by simp [faL]))
  have ErH : ErrC K mg "BadHand" (He.ga K "BadHand") (He.ga K "GrowError") := ⟨He.glo_ok X G (hf (x := .glo "BadHand") (by simp [faL])), e_ErH.1, e_ErH.2.1, e_ErH.2.2.1, e_ErH.2.2.2, He.exm_ok (hf (x := .exm "BadHand" "GrowError" true) (by simp [faL]))⟩
  have e_ErS := He.exc_ok (hf (x := .exc "BadStyle") (by simp [faL]))
  have ErS : ErrC K mg "BadStyle" (He.ga K "BadStyle") (He.ga K "GrowError") := ⟨He.glo_ok X G (hf (x := .glo "BadStyle") (by simp [faL])), e_ErS.1, e_ErS.2.1, e_ErS.2.2.1, e_ErS.2.2.2, He.exm_ok (hf (x := .exm "BadStyle" "GrowError" true) (by simp [faL]))⟩
  have e_ErN := He.exc_ok (hf (x := .exc "BadCount") (by simp [faL]))
  have ErN : ErrC K mg "BadCount" (He.ga K "BadCount") (He.ga K "GrowError") := ⟨He.glo_ok X G (hf (x := .glo "BadCount") (by simp [faL])), e_ErN.1, e_ErN.2.1, e_ErN.2.2.1, e_ErN.2.2.2, He.exm_ok (hf (x := .exm "BadCount" "GrowError" true) (by simp [faL]))⟩
  have eT : ∃ t, mg "TAB" = some (.str tabS t) := He.str_ok X G (hf (x := .str "TAB" "\t") (by simp [faL]))
  have eL : ∃ t, mg "LINE_END" = some (.str lineS t) := He.str_ok X G (hf (x := .str "LINE_END" "\n") (by simp [faL]))
  have eM : ∃ t, mg "MOST_HANDS" = some (.int 4 t) := He.int_ok X G (hf (x := .int "MOST_HANDS" 4) (by simp [faL]))
  have gT : mg "Table" = some (.ref (He.ga K "Table")) := He.glo_ok X G (hf (x := .glo "Table") (by simp [faL]))
  obtain ⟨d_Table_init, a_Table_init⟩ := atm_of cd (k := 49) (i := 0) (C := "Table") (m := "__init__") (by simp [fnL])
  have b_Table_init := a_Table_init.binds (ps := ["self", "page", "style", "hands"]) fun _ _ _ _ _ _ us hl => match us, hl with | [_, _, _, _], _ => rfl
  have mk_Table : Mk K (He.ga K "Table") (He.ma K (He.ga K "Table") "__init__") := He.mkr_ok (hf (x := .mkr "Table") (by simp [faL]))
  obtain ⟨d_Table_press, a_Table_press⟩ := atm_of cd (k := 49) (i := 1) (C := "Table") (m := "press") (by simp [fnL])
  have b_Table_press := a_Table_press.binds (ps := ["self", "hand", "sign"]) fun _ _ _ _ _ _ us hl => match us, hl with | [_, _, _], _ => rfl
  have m_Table_press : Meth K (He.ga K "Table") "press" (He.ma K (He.ga K "Table") "press") := He.meth_ok (hf (x := .meth "Table" "press") (by simp [faL]))
  obtain ⟨d_Table_rub, a_Table_rub⟩ := atm_of cd (k := 49) (i := 2) (C := "Table") (m := "rub") (by simp [fnL])
  have b_Table_rub := a_Table_rub.binds (ps := ["self", "hand"]) fun _ _ _ _ _ _ us hl => match us, hl with | [_, _], _ => rfl
  have m_Table_rub : Meth K (He.ga K "Table") "rub" (He.ma K (He.ga K "Table") "rub") := He.meth_ok (hf (x := .meth "Table" "rub") (by simp [faL]))
  obtain ⟨d_Table_back, a_Table_back⟩ := atm_of cd (k := 49) (i := 3) (C := "Table") (m := "back") (by simp [fnL])
  have b_Table_back := a_Table_back.binds (ps := ["self", "hand"]) fun _ _ _ _ _ _ us hl => match us, hl with | [_, _], _ => rfl
  have m_Table_back : Meth K (He.ga K "Table") "back" (He.ma K (He.ga K "Table") "back") := He.meth_ok (hf (x := .meth "Table" "back") (by simp [faL]))
  obtain ⟨d_Table_again, a_Table_again⟩ := atm_of cd (k := 49) (i := 4) (C := "Table") (m := "again") (by simp [fnL])
  have b_Table_again := a_Table_again.binds (ps := ["self", "hand"]) fun _ _ _ _ _ _ us hl => match us, hl with | [_, _], _ => rfl
  have m_Table_again : Meth K (He.ga K "Table") "again" (He.ma K (He.ga K "Table") "again") := He.meth_ok (hf (x := .meth "Table" "again") (by simp [faL]))
  obtain ⟨d_Table_left, a_Table_left⟩ := atm_of cd (k := 49) (i := 5) (C := "Table") (m := "left") (by simp [fnL])
  have b_Table_left := a_Table_left.binds (ps := ["self", "hand"]) fun _ _ _ _ _ _ us hl => match us, hl with | [_, _], _ => rfl
  have m_Table_left : Meth K (He.ga K "Table") "left" (He.ma K (He.ga K "Table") "left") := He.meth_ok (hf (x := .meth "Table" "left") (by simp [faL]))
  obtain ⟨d_Table_right, a_Table_right⟩ := atm_of cd (k := 49) (i := 6) (C := "Table") (m := "right") (by simp [fnL])
  have b_Table_right := a_Table_right.binds (ps := ["self", "hand"]) fun _ _ _ _ _ _ us hl => match us, hl with | [_, _], _ => rfl
  have m_Table_right : Meth K (He.ga K "Table") "right" (He.ma K (He.ga K "Table") "right") := He.meth_ok (hf (x := .meth "Table" "right") (by simp [faL]))
  obtain ⟨d_Table_at, a_Table_at⟩ := atm_of cd (k := 49) (i := 7) (C := "Table") (m := "at") (by simp [fnL])
  have b_Table_at := a_Table_at.binds (ps := ["self", "hand"]) fun _ _ _ _ _ _ us hl => match us, hl with | [_, _], _ => rfl
  have m_Table_at : Meth K (He.ga K "Table") "at" (He.ma K (He.ga K "Table") "at") := He.meth_ok (hf (x := .meth "Table" "at") (by simp [faL]))
  obtain ⟨d_Table_page, a_Table_page⟩ := atm_of cd (k := 49) (i := 8) (C := "Table") (m := "page") (by simp [fnL])
  have b_Table_page := a_Table_page.binds (ps := ["self"]) fun _ _ _ _ _ _ us hl => match us, hl with | [_], _ => rfl
  have m_Table_page : Meth K (He.ga K "Table") "page" (He.ma K (He.ga K "Table") "page") := He.meth_ok (hf (x := .meth "Table" "page") (by simp [faL]))
  obtain ⟨d_Table_begins, a_Table_begins⟩ := atm_of cd (k := 49) (i := 9) (C := "Table") (m := "begins") (by simp [fnL])
  have b_Table_begins := a_Table_begins.binds (ps := ["self"]) fun _ _ _ _ _ _ us hl => match us, hl with | [_], _ => rfl
  have m_Table_begins : Meth K (He.ga K "Table") "begins" (He.ma K (He.ga K "Table") "begins") := He.meth_ok (hf (x := .meth "Table" "begins") (by simp [faL]))
  obtain ⟨d_Table_told, a_Table_told⟩ := atm_of cd (k := 49) (i := 10) (C := "Table") (m := "told") (by simp [fnL])
  have b_Table_told := a_Table_told.binds (ps := ["self"]) fun _ _ _ _ _ _ us hl => match us, hl with | [_], _ => rfl
  have m_Table_told : Meth K (He.ga K "Table") "told" (He.ma K (He.ga K "Table") "told") := He.meth_ok (hf (x := .meth "Table" "told") (by simp [faL]))
  obtain ⟨d_Table_check_hand, a_Table_check_hand⟩ := atm_of cd (k := 49) (i := 11) (C := "Table") (m := "check_hand") (by simp [fnL])
  have b_Table_check_hand := a_Table_check_hand.binds (ps := ["self", "hand"]) fun _ _ _ _ _ _ us hl => match us, hl with | [_, _], _ => rfl
  have m_Table_check_hand : Meth K (He.ga K "Table") "check_hand" (He.ma K (He.ga K "Table") "check_hand") := He.meth_ok (hf (x := .meth "Table" "check_hand") (by simp [faL]))
  obtain ⟨d_Table_present, a_Table_present⟩ := atm_of cd (k := 49) (i := 12) (C := "Table") (m := "present") (by simp [fnL])
  have b_Table_present := a_Table_present.binds (ps := ["self"]) fun _ _ _ _ _ _ us hl => match us, hl with | [_], _ => rfl
  have m_Table_present : Meth K (He.ga K "Table") "present" (He.ma K (He.ga K "Table") "present") := He.meth_ok (hf (x := .meth "Table" "present") (by simp [faL]))
  obtain ⟨d_Table_near, a_Table_near⟩ := atm_of cd (k := 49) (i := 13) (C := "Table") (m := "near") (by simp [fnL])
  have b_Table_near := a_Table_near.binds (ps := ["self", "hand", "by"]) fun _ _ _ _ _ _ us hl => match us, hl with | [_, _, _], _ => rfl
  have m_Table_near : Meth K (He.ga K "Table") "near" (He.ma K (He.ga K "Table") "near") := He.meth_ok (hf (x := .meth "Table" "near") (by simp [faL]))
  obtain ⟨d_Table_go, a_Table_go⟩ := atm_of cd (k := 49) (i := 14) (C := "Table") (m := "go") (by simp [fnL])
  have b_Table_go := a_Table_go.binds (ps := ["self", "hand", "by"]) fun _ _ _ _ _ _ us hl => match us, hl with | [_, _, _], _ => rfl
  have m_Table_go : Meth K (He.ga K "Table") "go" (He.ma K (He.ga K "Table") "go") := He.meth_ok (hf (x := .meth "Table" "go") (by simp [faL]))
  obtain ⟨d_Table_turn, a_Table_turn⟩ := atm_of cd (k := 49) (i := 15) (C := "Table") (m := "turn") (by simp [fnL])
  have b_Table_turn := a_Table_turn.binds (ps := ["self", "number", "stands"]) fun _ _ _ _ _ _ us hl => match us, hl with | [_, _, _], _ => rfl
  have m_Table_turn : Meth K (He.ga K "Table") "turn" (He.ma K (He.ga K "Table") "turn") := He.meth_ok (hf (x := .meth "Table" "turn") (by simp [faL]))
  obtain ⟨d_Table_settle, a_Table_settle⟩ := atm_of cd (k := 49) (i := 16) (C := "Table") (m := "settle") (by simp [fnL])
  have b_Table_settle := a_Table_settle.binds (ps := ["self", "signs", "order", "deeds"]) fun _ _ _ _ _ _ us hl => match us, hl with | [_, _, _, _], _ => rfl
  have m_Table_settle : Meth K (He.ga K "Table") "settle" (He.ma K (He.ga K "Table") "settle") := He.meth_ok (hf (x := .meth "Table" "settle") (by simp [faL]))
  have e := hfa.symm.trans a69.mg_
  cases e
  refine ⟨d69, tfL.map (He.cT K), spLaw K (tfB.map (He.cT K)) (He.cT K ("_law_too_much", none)).2 (He.cT K ("law", none)).2, fun p hp => ?_, fun p hp => ?_, fun p hp => ?_, fun s u => ?_, fun H a ns hl _ hT hS => ⟨a, ns, rfl, fun p hp => ⟨_, hT p (subL hp), triples_nil⟩, LamX.TabS.nil (hT _ (memL (r := ("_law_too_much", none)) (by simp [lmL]))), LamX.TabS.nil (hT _ (memL (r := ("law", none)) (by simp [lmL]))), hS, hl, fun _ => rfl⟩, fun base KB _ TB => ?_⟩
  · obtain ⟨p', hp', rfl⟩ := List.mem_map.mp hp
    exact c.empty p' hp'
  · obtain ⟨p', hp', rfl⟩ := List.mem_map.mp hp
    exact c.out p' hp'
  · obtain ⟨p', hp', rfl⟩ := List.mem_map.mp hp
    exact PySem.W.codeHd_of_K X (c.hd p' hp')
  · obtain ⟨oc, od, kV, doc, pm, an, cdv, ct, osl, e, _, _⟩ := a69.fn.ex
    rw [e]
    exact .of_eq rfl
  have m26 : He.cT K ("is_text_of_signs", none) ∈ tfB.map (He.cT K) := List.mem_map.mpr ⟨_, by simp [tfB], rfl⟩
  have t26 := tab_conv (TB _ (subL m26))
  have m28 : He.cT K ("is_row", none) ∈ tfB.map (He.cT K) := List.mem_map.mpr ⟨_, by simp [tfB], rfl⟩
  have t28 := tab_conv (TB _ (subL m28))
  have m33 : He.cT K ("stretches", none) ∈ tfB.map (He.cT K) := List.mem_map.mpr ⟨_, by simp [tfB], rfl⟩
  have t33 := tab_conv (TB _ (subL m33))
  have m36 : He.cT K ("described", none) ∈ tfB.map (He.cT K) := List.mem_map.mpr ⟨_, by simp [tfB], rfl⟩
  have t36 := tab_conv (TB _ (subL m36))
  have m37 : He.cT K ("stands_right", none) ∈ tfB.map (He.cT K) := List.mem_map.mpr ⟨_, by simp [tfB], rfl⟩
  have t37 := tab_conv (TB _ (subL m37))
  have g56 := ok_begun (P := PySem.Challenge.rw_tabgrow_k33_hands_refused.prog) (w := w) (base := base) (mg := mg) T a56.fn 
  have g57 := ok_take (P := PySem.Challenge.rw_tabgrow_k33_hands_refused.prog) (w := w) (base := base) (mg := mg)  a57.fn 
  have g57_W := ok_takeW (P := PySem.Challenge.rw_tabgrow_k33_hands_refused.prog) (w := w) (base := base) (mg := mg)  a57.fn 
  have g61 := ok_sign (P := PySem.Challenge.rw_tabgrow_k33_hands_refused.prog) (w := w) (base := base) (mg := mg)  a61.fn g57 a57.kp b57 a57.mg_
  have g62 := ok_cell (P := PySem.Challenge.rw_tabgrow_k33_hands_refused.prog) (w := w) (base := base) (mg := mg) T a62.fn g57 a57.kp b57 a57.mg_ g61 a61.kp b61 a61.mg_
  have g63 := ok_lrow (P := PySem.Challenge.rw_tabgrow_k33_hands_refused.prog) (w := w) (base := base) (mg := mg) T a63.fn g62 a62.kp b62 a62.mg_
  have g64 := ok_lpage (P := PySem.Challenge.rw_tabgrow_k33_hands_refused.prog) (w := w) (base := base) (mg := mg) T a64.fn g57 a57.kp b57 a57.mg_ g63 a63.kp b63 a63.mg_
  have g66 := ok_lfirst (P := PySem.Challenge.rw_tabgrow_k33_hands_refused.prog) (w := w) (base := base) (mg := mg)  a66.fn g57 a57.kp b57 a57.mg_ g64 a64.kp b64 a64.mg_
  have g65 := ok_lstyle (P := PySem.Challenge.rw_tabgrow_k33_hands_refused.prog) (w := w) (base := base) (mg := mg)  a65.fn g57 a57.kp b57 a57.mg_
  have g58 := ok_alike (P := PySem.Challenge.rw_tabgrow_k33_hands_refused.prog) (w := w) (base := base) (mg := mg) T a58.fn b58 a58.mg_ 4
  have g59 := ok_tellsW (P := PySem.Challenge.rw_tabgrow_k33_hands_refused.prog) (w := w) (base := base) (mg := mg) (cs := tfB.map (He.cT K)) (kl := 19) T Ers a59.fn 
  have g60 := ok_allW (P := PySem.Challenge.rw_tabgrow_k33_hands_refused.prog) (w := w) (base := base) (mg := mg) (kl := 19) (by decide) a60.fn g58 a58.kp b58 a58.mg_ g59 a59.kp b59 a59.mg_
  have g25 := ok_sg (P := PySem.Challenge.rw_tabgrow_k33_hands_refused.prog) (w := w) (base := base) (mg := mg) T N a25.fn 
  have g26 := ok_text (P := PySem.Challenge.rw_tabgrow_k33_hands_refused.prog) (w := w) (base := base) (mg := mg) (cs := tfB.map (He.cT K)) T a26.fn (code_of a26) t26 m26 g25 a25.kp b25 a25.mg_
  have g28 := ok_isrow (P := PySem.Challenge.rw_tabgrow_k33_hands_refused.prog) (w := w) (base := base) (mg := mg) T N a28.fn (code_of a28) t28 m28 g26 a26.kp b26 a26.mg_
  have g29 := ok_misfit (P := PySem.Challenge.rw_tabgrow_k33_hands_refused.prog) (w := w) (base := base) (mg := mg) T N a29.fn g28 a28.kp b28 a28.mg_
  have g30 := ok_check (P := PySem.Challenge.rw_tabgrow_k33_hands_refused.prog) (w := w) (base := base) (mg := mg) T a30.fn g29 a29.kp b29 a29.mg_
  have g24 := ok_whole (P := PySem.Challenge.rw_tabgrow_k33_hands_refused.prog) (w := w) (base := base) (mg := mg) T a24.fn 
  have g31 := ok_cstyle (P := PySem.Challenge.rw_tabgrow_k33_hands_refused.prog) (w := w) (base := base) (mg := mg) T N a31.fn g24 a24.kp b24 a24.mg_
  have g35 := ok_closed (P := PySem.Challenge.rw_tabgrow_k33_hands_refused.prog) (w := w) (base := base) (mg := mg) T a35.fn 
  have g34 := ok_runs (P := PySem.Challenge.rw_tabgrow_k33_hands_refused.prog) (w := w) (base := base) (mg := mg) (cs := tfB.map (He.cT K)) T a34.fn g35 a35.kp b35 a35.mg_
  have g38 := ok_isfig (P := PySem.Challenge.rw_tabgrow_k33_hands_refused.prog) (w := w) (base := base) (mg := mg)  a38.fn 
  have g37 := ok_right (P := PySem.Challenge.rw_tabgrow_k33_hands_refused.prog) (w := w) (base := base) (mg := mg) T a37.fn (code_of a37) t37 m37 g38 a38.kp b38 a38.mg_
  have g36 := ok_desc (P := PySem.Challenge.rw_tabgrow_k33_hands_refused.prog) (w := w) (base := base) (mg := mg) T a36.fn (code_of a36) t36 m36 g37 a37.kp b37 a37.mg_
  have g33 := ok_str (P := PySem.Challenge.rw_tabgrow_k33_hands_refused.prog) (w := w) (base := base) (mg := mg) T a33.fn (code_of a33) t33 m33 g30 a30.kp b30 a30.mg_ g31 a31.kp b31 a31.mg_ g34 a34.kp b34 a34.mg_ g36 a36.kp b36 a36.mg_
  have g41 := ok_cc (P := PySem.Challenge.rw_tabgrow_k33_hands_refused.prog) (w := w) (base := base) (mg := mg) T a41.fn g33 a33.kp b33 a33.mg_
  have g42 := ok_le (P := PySem.Challenge.rw_tabgrow_k33_hands_refused.prog) (w := w) (base := base) (mg := mg)  a42.fn 
  have g43 := ok_bo (P := PySem.Challenge.rw_tabgrow_k33_hands_refused.prog) (w := w) (base := base) (mg := mg) T a43.fn g42 a42.kp b42 a42.mg_
  have g40 := ok_laid (P := PySem.Challenge.rw_tabgrow_k33_hands_refused.prog) (w := w) (base := base) (mg := mg) hz a40.fn g41 a41.kp b41 a41.mg_ g43 a43.kp b43 a43.mg_
  have g31_X := ok_cstyleX (P := PySem.Challenge.rw_tabgrow_k33_hands_refused.prog) (w := w) (base := base) (mg := mg) T ErS a31.fn 
  have g45 := ok_writ (P := PySem.Challenge.rw_tabgrow_k33_hands_refused.prog) (w := w) (base := base) (mg := mg) eT eL a45.fn g30 a30.kp b30 a30.mg_
  have g46 := ok_rowsof (P := PySem.Challenge.rw_tabgrow_k33_hands_refused.prog) (w := w) (base := base) (mg := mg) (cs := tfB.map (He.cT K)) T eT eL a46.fn 
  have g24_B := ok_wholeB (P := PySem.Challenge.rw_tabgrow_k33_hands_refused.prog) (w := w) (base := base) (mg := mg) T a24.fn 
  have g24_N := ok_wholeN (P := PySem.Challenge.rw_tabgrow_k33_hands_refused.prog) (w := w) (base := base) (mg := mg) T a24.fn 
  have g26_3 := ok_text3 (P := PySem.Challenge.rw_tabgrow_k33_hands_refused.prog) (w := w) (base := base) (mg := mg) (cs := tfB.map (He.cT K)) T a26.fn (code_of a26) t26 m26 g25 a25.kp b25 a25.mg_
  have g28_3 := ok_row3 (P := PySem.Challenge.rw_tabgrow_k33_hands_refused.prog) (w := w) (base := base) (mg := mg) T N a28.fn (code_of a28) t28 m28 g26_3 a26.kp b26 a26.mg_
  have g29_B := ok_misB (P := PySem.Challenge.rw_tabgrow_k33_hands_refused.prog) (w := w) (base := base) (mg := mg) T N a29.fn g28_3 a28.kp b28 a28.mg_
  have g51 := ok_marks (P := PySem.Challenge.rw_tabgrow_k33_hands_refused.prog) (w := w) (base := base) (mg := mg)  a51.fn 
  have g52 := ok_those (P := PySem.Challenge.rw_tabgrow_k33_hands_refused.prog) (w := w) (base := base) (mg := mg)  a52.fn 
  have g53 := ok_textof (P := PySem.Challenge.rw_tabgrow_k33_hands_refused.prog) (w := w) (base := base) (mg := mg)  a53.fn 
  have g54 := ok_first (P := PySem.Challenge.rw_tabgrow_k33_hands_refused.prog) (w := w) (base := base) (mg := mg)  a54.fn 
  have g27 := ok_filled (P := PySem.Challenge.rw_tabgrow_k33_hands_refused.prog) (w := w) (base := base) (mg := mg)  a27.fn g26 a26.kp b26 a26.mg_
  have g50 := ok_cmark (P := PySem.Challenge.rw_tabgrow_k33_hands_refused.prog) (w := w) (base := base) (mg := mg) eT eL a50.fn g27 a27.kp b27 a27.mg_
  have t_check_hand := ok_chand (P := PySem.Challenge.rw_tabgrow_k33_hands_refused.prog) (w := w) (base := base) (mg := mg) T Xc a_Table_check_hand g24_B a24.kp b24 a24.mg_
  have t_checkX := ok_chandX (P := PySem.Challenge.rw_tabgrow_k33_hands_refused.prog) (w := w) (base := base) (mg := mg) T ErH Xc a_Table_check_hand g24_N a24.kp b24 a24.mg_
  have t_present := ok_present (P := PySem.Challenge.rw_tabgrow_k33_hands_refused.prog) (w := w) (base := base) (mg := mg) Xc a_Table_present g52 a52.kp b52 a52.mg_
  have t_near := ok_near (P := PySem.Challenge.rw_tabgrow_k33_hands_refused.prog) (w := w) (base := base) (mg := mg) T Xc a_Table_near m_Table_present t_present b_Table_present
  have t_go := ok_go (P := PySem.Challenge.rw_tabgrow_k33_hands_refused.prog) (w := w) (base := base) (mg := mg) (cs := tfB.map (He.cT K)) Xc a_Table_go m_Table_near t_near b_Table_near
  have t_right := ok_tright (P := PySem.Challenge.rw_tabgrow_k33_hands_refused.prog) (w := w) (base := base) (mg := mg) (cs := tfB.map (He.cT K)) Xc a_Table_right m_Table_check_hand t_check_hand b_Table_check_hand m_Table_go t_go b_Table_go
  have t_page := ok_tpage (P := PySem.Challenge.rw_tabgrow_k33_hands_refused.prog) (w := w) (base := base) (mg := mg) (cs := tfB.map (He.cT K)) Xc a_Table_page m_Table_present t_present b_Table_present g53 a53.kp b53 a53.mg_ g46 a46.kp b46 a46.mg_
  have t_at := ok_tat (P := PySem.Challenge.rw_tabgrow_k33_hands_refused.prog) (w := w) (base := base) (mg := mg) (cs := tfB.map (He.cT K)) T Xc a_Table_at m_Table_check_hand t_check_hand b_Table_check_hand m_Table_present t_present b_Table_present g53 a53.kp b53 a53.mg_ g46 a46.kp b46 a46.mg_
  have t_told := ok_ttold (P := PySem.Challenge.rw_tabgrow_k33_hands_refused.prog) (w := w) (base := base) (mg := mg) Xc a_Table_told
  have t_begins := ok_tbegins (P := PySem.Challenge.rw_tabgrow_k33_hands_refused.prog) (w := w) (base := base) (mg := mg) (cs := tfB.map (He.cT K)) Xc a_Table_begins m_Table_page t_page b_Table_page g40 a40.kp b40 a40.mg_
  have t_settle := ok_settle (P := PySem.Challenge.rw_tabgrow_k33_hands_refused.prog) (w := w) (base := base) (mg := mg) (cs := tfB.map (He.cT K)) T Er Xc a_Table_settle g51 a51.kp b51 a51.mg_ g52 a52.kp b52 a52.mg_ g53 a53.kp b53 a53.mg_ g46 a46.kp b46 a46.mg_ (fn_or g29 g29_B) a29.kp b29 a29.mg_ g54 a54.kp b54 a54.mg_
  have t_turn := ok_turn (P := PySem.Challenge.rw_tabgrow_k33_hands_refused.prog) (w := w) (base := base) (mg := mg) (cs := tfB.map (He.cT K)) T Xc a_Table_turn m_Table_settle t_settle b_Table_settle
  have t_back := ok_tback (P := PySem.Challenge.rw_tabgrow_k33_hands_refused.prog) (w := w) (base := base) (mg := mg) (cs := tfB.map (He.cT K)) T Xc a_Table_back m_Table_check_hand t_check_hand b_Table_check_hand m_Table_turn t_turn b_Table_turn
  have t_again := ok_tagain (P := PySem.Challenge.rw_tabgrow_k33_hands_refused.prog) (w := w) (base := base) (mg := mg) (cs := tfB.map (He.cT K)) T Xc a_Table_again m_Table_check_hand t_check_hand b_Table_check_hand m_Table_turn t_turn b_Table_turn
  have t_rub := ok_trub (P := PySem.Challenge.rw_tabgrow_k33_hands_refused.prog) (w := w) (base := base) (mg := mg) (cs := tfB.map (He.cT K)) T ErB Xc a_Table_rub m_Table_check_hand t_check_hand b_Table_check_hand m_Table_near t_near b_Table_near m_Table_settle t_settle b_Table_settle
  have t_press := ok_pressT (P := PySem.Challenge.rw_tabgrow_k33_hands_refused.prog) (w := w) (base := base) (mg := mg) (cs := tfB.map (He.cT K)) T Xc a_Table_press m_Table_check_hand t_check_hand b_Table_check_hand g50 a50.kp b50 a50.mg_ m_Table_settle t_settle b_Table_settle
  have t_init := ok_tinit (P := PySem.Challenge.rw_tabgrow_k33_hands_refused.prog) (w := w) (base := base) (mg := mg) (cs := tfB.map (He.cT K)) T Xc eM a_Table_init g45 a45.kp b45 a45.mg_ g31 a31.kp b31 a31.mg_ g24_B a24.kp b24 a24.mg_
  have t_initX := ok_tinitX (P := PySem.Challenge.rw_tabgrow_k33_hands_refused.prog) (w := w) (base := base) (mg := mg) (cs := tfB.map (He.cT K)) T ErN eM a_Table_init g45 a45.kp b45 a45.mg_ (fn_or g31_X (fnX_of g31)) a31.kp b31 a31.mg_ g24_N a24.kp b24 a24.mg_
  have g26_N := ok_textN (P := PySem.Challenge.rw_tabgrow_k33_hands_refused.prog) (w := w) (base := base) (mg := mg) T a26.fn (code_of a26) t26 g25 a25.kp b25 a25.mg_
  have g27_B := ok_filledB (P := PySem.Challenge.rw_tabgrow_k33_hands_refused.prog) (w := w) (base := base) (mg := mg) (cs := tfB.map (He.cT K)) a27.fn (fn_or g26_N g26) a26.kp b26 a26.mg_
  have g50_X := ok_cmarkX (P := PySem.Challenge.rw_tabgrow_k33_hands_refused.prog) (w := w) (base := base) (mg := mg) (cs := tfB.map (He.cT K)) eT eL ErB a50.fn g27_B a27.kp b27 a27.mg_
  have t_pressB := ok_pressB (P := PySem.Challenge.rw_tabgrow_k33_hands_refused.prog) (w := w) (base := base) (mg := mg) (cs := tfB.map (He.cT K)) Xc a_Table_press m_Table_check_hand t_check_hand b_Table_check_hand g50_X a50.kp b50 a50.mg_
  have t_pressX := ok_pressX (P := PySem.Challenge.rw_tabgrow_k33_hands_refused.prog) (w := w) (base := base) (mg := mg) Xc a_Table_press m_Table_check_hand t_checkX b_Table_check_hand
  have t_rubX := ok_rubX (P := PySem.Challenge.rw_tabgrow_k33_hands_refused.prog) (w := w) (base := base) (mg := mg) Xc a_Table_rub m_Table_check_hand t_checkX b_Table_check_hand
  have t_backX := ok_backX (P := PySem.Challenge.rw_tabgrow_k33_hands_refused.prog) (w := w) (base := base) (mg := mg) Xc a_Table_back m_Table_check_hand t_checkX b_Table_check_hand
  have t_againX := ok_againX (P := PySem.Challenge.rw_tabgrow_k33_hands_refused.prog) (w := w) (base := base) (mg := mg) Xc a_Table_again m_Table_check_hand t_checkX b_Table_check_hand
  have t_leftX := ok_leftX (P := PySem.Challenge.rw_tabgrow_k33_hands_refused.prog) (w := w) (base := base) (mg := mg) Xc a_Table_left m_Table_check_hand t_checkX b_Table_check_hand
  have t_rightX := ok_rightX (P := PySem.Challenge.rw_tabgrow_k33_hands_refused.prog) (w := w) (base := base) (mg := mg) Xc a_Table_right m_Table_check_hand t_checkX b_Table_check_hand
  have t_atX := ok_atX (P := PySem.Challenge.rw_tabgrow_k33_hands_refused.prog) (w := w) (base := base) (mg := mg) Xc a_Table_at m_Table_check_hand t_checkX b_Table_check_hand
  have g67 := ok_lshown (P := PySem.Challenge.rw_tabgrow_k33_hands_refused.prog) (w := w) (base := base) (mg := mg) (cs := tfB.map (He.cT K)) T Xc a67.fn m_Table_page t_page b_Table_page m_Table_begins t_begins b_Table_begins m_Table_told t_told b_Table_told m_Table_at t_at b_Table_at
  have g68 := ok_tooMuch (P := PySem.Challenge.rw_tabgrow_k33_hands_refused.prog) (w := w) (base := base) (mg := mg) (cs := tfB.map (He.cT K)) (p2 := (He.cT K ("law", none)).2) T Xc rfl ne0 ne nn01 a68.fn (code_of a68) (TB _ (memL (r := ("_law_too_much", none)) (by simp [lmL]))) m_Table_at t_at b_Table_at g60 a60.kp b60 a60.mg_ m_Table_press (t_press.mono (by decide)) b_Table_press m_Table_rub (t_rub.mono (by decide)) b_Table_rub
  exact ok_law T Xc rfl rfl rfl rfl rfl ne0 ne nn01 a69.fn (code_of a69) (TB _ (memL (r := ("law", none)) (by simp [lmL]))) g56 a56.kp b56 a56.mg_ g57_W a57.kp b57 a57.mg_ g66 a66.kp b66 a66.mg_ g65 a65.kp b65 a65.mg_ g61 a61.kp b61 a61.mg_ g67 a67.kp b67 a67.mg_ g68 a68.kp b68 a68.mg_ g60 a60.kp b60 a60.mg_ g59 a59.kp b59 a59.mg_ mk_Table b_Table_init gT t_init (t_initX.mono (by decide)) m_Table_press b_Table_press (t_pressX.mono (by decide)) (t_pressB.mono (by decide)) (t_press.mono (by decide)) m_Table_rub b_Table_rub (t_rubX.mono (by decide)) (t_rub.mono (by decide)) m_Table_back b_Table_back (t_backX.mono (by decide)) (fn0_of t_back) m_Table_again b_Table_again (t_againX.mono (by decide)) (fn0_of t_again) m_Table_left b_Table_left (t_leftX.mono (by decide)) m_Table_right b_Table_right (t_rightX.mono (by decide)) t_right m_Table_at b_Table_at (t_atX.mono (by decide)) m_Table_page b_Table_page t_page
end TG


open PySem PySem.W PySem.Calls PyProof.Rows
theorem PySem.Challenge.cw_tabgrow_k33_hands_refused_holds : PySem.Challenge.rw_tabgrow_k33_hands_refused.Holds := by
  w_on; o_law
  refine HandSHeadRun.head_any (r := OpenLaw.row PySem.Challenge.rw_tabgrow_k33_hands_refused) (q := view (OpenLaw.row PySem.Challenge.rw_tabgrow_k33_hands_refused).prog [69]) (H := TG.hdHk) (ob := TG.hdOb) (M := 9000) (loose := TG.looseL) (d := HandSHeadRun.topDef (OpenLaw.row PySem.Challenge.rw_tabgrow_k33_hands_refused).prog 69) (kwd := []) TG.hdOb_eq
    (by kernel_rfl) (fun s => by kernel_rfl) TG.hdRun (by kernel_rfl) (by kernel_rfl) (by kernel_rfl) (by rfl) (by first | assumption | decide +kernel) (by decide +kernel) ⟨rfl, rfl, rfl, rfl, rfl, by decide +kernel⟩ ?hw ?hc
  case hw => w_witness2
  case hc =>
    refine LamX.walk_ofTsE (l := PySem.Challenge.rw_tabgrow_k33_hands_refused) (n := 63) (k := 23) (x := "_law_script") (CX := fun _ => L2.CX0) rfl (by decide) (by kernel_rfl) ⟨rfl, by decide, by decide⟩ ?F (fun _ _ _ _ _ z => z)
    intro w mg fa h Y G hmg0
    obtain ⟨K, KX, c⟩ := Y
    have hmg : mg ("law" : PySem.Str) = some (.ref fa) := by
      have e : (HandSHeadRun.topDef (OpenLaw.row PySem.Challenge.rw_tabgrow_k33_hands_refused).prog 69).name = ("law" : PySem.Str) := by kernel_rfl
      rw [← e]
      exact hmg0
    exact ⟨K, KX, TG.facts KX G hmg c⟩

