import PyProof.Rows.All
import Wide.All
import OpenK.AllK
import Wide.FinOn
import HandS.ForMost
import HandS.Exc
import HandS.GenList
import HandS.AnyAll
import HandS.IsInst
import HandS.StrMore
import HandS.Flow
import HandS.TupAny
import HandS.EndTab
import HandS.Walk
import HandS.Lambda
import HandS.Codes
import KE.KIntText
import KE.KxText
import KE.KStateDown
import HandS.Head0
import HandS.Head1
import HandS.Head2
import HandS.HeadEnd
import HandS.HeadHook1
import HandS.HeadHook2
import HandS.HeadHook3
import HandS.HeadHook4
import HandS.HeadWalk
import PyProof.WalkInts
import PyProof.ZipIter
import HandS.Zip
import HandS.Nested
import HandS.GenOver
import KE.KLam
import PySem.Challenge.RW_tabgrow_k36_whole_hands_beside
import HandS.WordsExc
import HandS.ExcInit
import HandS.ExcOwn
import HandS.FStr
import HandS.ExcIs
import HandS.ExcField
import KE.KExcIs
import KE.KExcSuper
import KE.KSuper
import KE.KSuperObj
import HandS.Style
import HandS.Conv
import HandS.TryOnly
import HandS.Iter
import HandS.More
import HandS.TryMany
import HandS.Dict
import HandS.Small
set_option Elab.async false
set_option linter.all false
set_option maxRecDepth 1000000
set_option maxHeartbeats 20000000
namespace Gx
open PySem PySem.Spec PyProof.Rows L2 GenW
abbrev gE (X : Cx) (sc : Scope) (C : Addr) (code : Value) : Env :=
  genEnv sc (cloFrom X.env.cells sc.names []) C code builtinsNs X.env
/-- the context of the element -/
def gCx (X : Cx) (A : Around) (sc : Scope) (x : Str) (code : Value) (s4 : Shared) (H4 : Hp) (fp : List Addr) : Cx where
  prog := X.prog
  w := X.w
  K := X.K
  mg := X.mg
  base := X.base
  A := A.deeper (gE X sc s4.heap.objs.size code)
  N := [x]
  s_0 := s4
  H_0 := H4
  env := gE X sc s4.heap.objs.size code
  outer := X.stack
  stack := gE X sc s4.heap.objs.size code :: X.stack
  ex := fp
  fn := fun _ => false
  calm := true
  pn := []
  xe := fun _ _ => False
/-- the scope of a generator expression that captures nothing -/
structure GSc (sc : Scope) (x : Str) : Prop where
  kind : sc.kind = .function
  co : sc.isCoroutine = false
  cell : ∀ y ∈ sc.names, y.2 ≠ .cell
  free : ∀ y ∈ sc.names, y.2 ≠ .free
  dot : sc.names.lookup (".0" : Str) = some NameKind.local
  loc : sc.names.lookup x = some .local
section
variable {X : Cx} {pins : List (Addr × Obj)} {σ : L2.St} {H : Hp} {s : Shared} {A : Around} {sc : Scope} {x : Str} {code : Value} {fp : List Addr}
theorem no_cells (S : GSc sc x) (cells : List (Str × Addr)) {y : Str} {c : Addr} (h : (cloFrom cells sc.names []).lookup y = some c) : False := by
  rcases cloFrom_mem (PySem.mem_of_lookup h) with z | ⟨z, _⟩
  · cases z
  · exact S.free _ z rfl
theorem gx_inv (I : Inv X pins σ H s) (S : GSc sc x) (hd : A.handled = none) (hfr : A.frames = some X.stack) (hf : ∀ b ∈ fp, FpOk X pins H b)
    (hlt : ∀ b ∈ fp, b < s.heap.objs.size) {s5 : Shared} {m : Str → Option Value} (os : s5.os = s.os) (bare : AllBare s5.gens)
    (keep : ∀ b o, s.heap.get? b = some o → s5.heap.get? b = some o) (hns : s5.heap.Ns s.heap.objs.size m) :
    Inv (gCx X A sc x code s H fp) [] [none] H s5 := by
  have nc : ∀ {y : Str} {c : Addr}, (gCx X A sc x code s H fp).env.cells.lookup y = some c → False := fun {y c} h => no_cells S _ h
  refine ⟨⟨I.ok.mod, S.kind, I.ok.glob, rfl, Nat.le_refl _, fun y z c e _ => (nc e).elim, fun y hy => ?_, fun y c _ e => (nc e).elim, fun _ => hd,
      Around.frames_deeper hfr, .inr ⟨rfl, rfl⟩, fun b hb => ⟨Nat.ne_of_lt (hlt b hb), fun y c e => (nc e).elim⟩, I.bs, Nat.le_trans I.ok.bsz I.sz,
      fun b o e hb => ?_, fun b hb z => ?_, I.stack, I.stkFree⟩,
    os, bare, Un.kept keep, ⟨m, hns, fun i y v _ e2 _ => ?_⟩, fun y c e => (nc e).elim, I.hok.fresh (Nat.le_refl _), fun y c e => (nc e).elim,
    fun p hp => ?_, I.hok.kept keep, rfl⟩
  · rcases hy with z | z
    · exact absurd rfl (S.cell _ (PySem.mem_of_lookup (show sc.names.lookup y = some .cell from z)))
    · exact absurd rfl (S.free _ (PySem.mem_of_lookup (show sc.names.lookup y = some .free from z)))
  · rcases (hf b hb).2.2.2.1 with z | z
    · exact I.ok.noex b o e z
    · exact absurd (Nat.lt_of_lt_of_le (Heap.lt_size e) (Nat.le_trans I.ok.bsz z)) (Nat.lt_irrefl _)
  · rcases List.mem_cons.mp (I.stkSub b z) with q | q
    · exact (hf b hb).2.1 q
    · exact (hf b hb).2.2.1 q
  · match i, e2 with
    | 0, e2 => cases e2
    | i + 1, e2 => simp at e2
  · exact absurd (show p ∈ ([] : List (Addr × Obj)) from hp) (by simp)
/-- only the generators' states differ -/
theorem regens {s' : Shared} (I : Inv X pins σ H s) (os : s'.os = s.os) (hh : ∀ b o, s.heap.get? b = some o → s'.heap.get? b = some o) (hb : AllBare s'.gens) : Inv X pins σ H s' :=
  I.call' (ch := []) os (Un.kept hh) (I.hok.kept hh) hb fun b z => by simp at z
/-- the consumer's own list, if it has one -/
def Held (So : Option Addr) (Rel : Array Value → Prop) (ps : List (Addr × Obj)) : Prop :=
  match So with
  | none => ps = []
  | some S => ∃ acc c, ps = [(S, lstObj acc c)] ∧ Rel acc
structure Woke (So : Option Addr) (Rel : Array Value → Prop) (s s' : Shared) : Prop where
  os : s'.os = s.os
  bare : AllBare s'.gens
  keep : ∀ b o, So ≠ some b → s.heap.get? b = some o → s'.heap.get? b = some o
  own : ∀ S, So = some S → ∃ acc' c', s'.heap.get? S = some (lstObj acc' c') ∧ Rel acc'
theorem woken {Z : Cx} {q ps : List (Addr × Obj)} {So : Option Addr} {Rel Rel' : Array Value → Prop} {s' : Shared} (I : Inv Z (q ++ ps) σ H s) (hps : Held So Rel ps) (hq : ∀ p ∈ Z.pn ++ q, So ≠ some p.1)
    (hS : ∀ S, So = some S → Z.s_0.heap.objs.size ≤ S ∧ S ≠ Z.env.locals ∧ ∀ y c, Z.env.cells.lookup y = some c → c ≠ S) (k : Woke So Rel' s s') :
    ∃ ps', Held So Rel' ps' ∧ Inv Z (q ++ ps') σ H s' ∧ ∀ p ∈ ps', s'.heap.get? p.1 = some p.2 := by
  cases So with
  | none =>
    have e : ps = [] := hps
    subst e
    exact ⟨[], rfl, regens I k.os (fun b o e => k.keep b o (by simp) e) k.bare, fun p hp => by simp at hp⟩
  | some S =>
    obtain ⟨acc, c, e, _⟩ := hps
    subst e
    obtain ⟨h1, h2, h3, h4, _⟩ := I.pin (S, lstObj acc c) (List.mem_append_right _ (List.mem_append_right _ (List.mem_singleton.mpr rfl)))
    obtain ⟨acc', c', e', hR⟩ := k.own S rfl
    obtain ⟨g1, g2, g3⟩ := hS S rfl
    have I0 : Inv Z q σ H s := I.pins_of fun p hp => I.pin p (List.mem_append_right _ (List.mem_append_left _ hp))
    have nS : ∀ b u, H b = some u → b ≠ S := fun b u e z => by rw [z, h2] at e; cases e
    have kp : ∀ b o, b ≠ S → s.heap.get? b = some o → s'.heap.get? b = some o := fun b o hb e => k.keep b o (fun z => hb (Option.some.inj z).symm) e
    have ni : ∀ b : Addr, b ∉ [S] → b ≠ S := fun b hb e => hb (by rw [e]; exact List.mem_singleton.mpr rfl)
    have J : Inv Z q σ H s' := by
      refine I0.call' (ch := [S]) k.os ⟨fun b o e _ _ hx => kp b o (ni b hx) e, fun b o e _ _ hx => ⟨o.slots, kp b o (ni b hx) e⟩, fun _ _ _ n _ => n, fun b o e hx => ⟨o, kp b o (ni b hx) e⟩,
        fun _ _ e => e, fun _ _ _ e => e, fun _ _ e => ⟨#[], by rw [e]; simp⟩⟩ (fun b u e => ?_) k.bare fun b hb => ?_
      · refine (I0.hok b u e).stay (fun d v hd z => kp d v ?_ z) (fun _ z => z) fun _ _ z => z
        rcases hd with z | z
        · rw [z]; exact nS b u e
        · exact nS d _ z
      · have eb : b = S := List.mem_singleton.mp hb
        subst eb
        exact ⟨.inr g1, g2, g3, fun p hp z => hq p hp (by rw [z])⟩
    refine ⟨[(S, lstObj acc' c')], ⟨acc', c', rfl, hR⟩, J.pins_of fun p hp => ?_, fun p hp => by rw [List.mem_singleton.mp hp]; exact e'⟩
    rcases List.mem_append.mp hp with z | z
    · exact J.pin p (List.mem_append_right _ z)
    · rw [List.mem_singleton.mp z]
      exact ⟨e', h2, h3, h4, fun v z => by cases z⟩
abbrev WT := Nat → List V → Hp → Prop
/-- an item is handed out -/
def GYx (Z : Cx) (q : List (Addr × Obj)) (So : Option Addr) (Rel : List V → Array Value → Prop) (W : WT) (Ny : Nat → List V → V → Hp → Prop) : Protocol := fun n s₀ v s1 kap =>
  ∃ m ys y σ H ps, m < n + 1 ∧ RelV y v ∧ Held So (Rel ys) ps ∧ (∀ p ∈ ps, s₀.heap.get? p.1 = some p.2) ∧ Inv Z (q ++ ps) σ H s1 ∧ Ny m ys y H ∧ ∀ s', Woke So (Rel (ys ++ [y])) s1 s' → ∀ m', m' < m → W m' (ys ++ [y]) H → kap (.send .none) s'
def GFx (Z : Cx) (q : List (Addr × Obj)) (So : Option Addr) (Rel : List V → Array Value → Prop) (Ns : List V → Hp → Prop) (s₀ s1 : Shared) : Prop :=
  ∃ ys σ H ps, Held So (Rel ys) ps ∧ (∀ p ∈ ps, s₀.heap.get? p.1 = some p.2) ∧ Inv Z (q ++ ps) σ H s1 ∧ Ns ys H
abbrev GRx (Z : Cx) (q : List (Addr × Obj)) (So : Option Addr) (Rel : List V → Array Value → Prop) (Ns : List V → Hp → Prop) : GenEnd := fun n s₀ r s₁ =>
  ((r = .ok (.ret .none) ∨ r = .ok .next) ∧ (fun (_ : Nat) (t : Shared) s => GFx Z q So Rel Ns t s) n s₀ s₁) ∨ ∃ e, r = .error e ∧ (fun (_ : Value) (_ : Shared) => False) e s₁
theorem seg_turns {elt iter : Expr} {px : Pos} {pos : Pos} {it : Addr} {J : It} {tn : Nat → Heap → Prop} {te : TE} {W : WT} {Ny : Nat → List V → V → Hp → Prop} {Ns : List V → Hp → Prop} {s4 : Shared} {H4 : Hp}
    {q : List (Addr × Obj)} {So : Option Addr} {Rel : List V → Array Value → Prop}
    (S : GSc sc x) (T : Turn X.prog X.w X.K (.Name x px) J fp it tn)
    (stat : ∀ b ∈ fp, b ≠ s4.heap.objs.size ∧ b ∉ frs X.stack ∧ (∀ p ∈ q, p.1 ≠ b) ∧ So ≠ some b)
    (hq : ∀ p ∈ q, So ≠ some p.1) (hS : ∀ S', So = some S' → s4.heap.objs.size < S')
    (he : PE (gCx X A sc x code s4 H4 fp) elt te)
    (step : ∀ m ys H, W m ys H → (J.stop ys.length H ∧ Ns ys H) ∨ (J.go ys.length H ∧ ∀ v H', J.yld ys.length H v H' → te [some v] H' (Ny m ys))) :
    ∀ (n m : Nat) (ys : List V) (s₀ s : Shared) (σ : L2.St) (H : Hp) (ps : List (Addr × Obj)), m < n → Held So (Rel ys) ps → (∀ p ∈ ps, s₀.heap.get? p.1 = some p.2) → W m ys H → Inv (gCx X A sc x code s4 H4 fp) (q ++ ps) σ H s → tn ys.length s.heap → (∀ b ∈ fp, H b = none) →
      Seg (model X.prog X.w) A (GRx (gCx X A sc x code s4 H4 fp) q So Rel Ns) (GYx (gCx X A sc x code s4 H4 fp) q So Rel W Ny) n s₀
        (.compLoop (.GeneratorExp elt [⟨.Name x px, iter, [], 0⟩] sc pos) 0 (.ref it) .none (gE X sc s4.heap.objs.size code))
        ((model X.prog X.w).den (.compLoop (.GeneratorExp elt [⟨.Name x px, iter, [], 0⟩] sc pos) 0 (.ref it) .none (gE X sc s4.heap.objs.size code))) [] s := by
  have nc : ∀ {y : Str} {c : Addr}, (gCx X A sc x code s4 H4 fp).env.cells.lookup y = some c → False := fun {y c} h => no_cells S _ h
  intro n
  induction n with
  | zero => intro m _ _ _ _ _ _ hm; exact absurd hm (Nat.not_lt_zero _)
  | succ n ih =>
    intro m ys s₀ s σ H ps hm hps hs0 hW I htn hfn
    have fok : ∀ {H' : Hp}, (∀ b ∈ fp, H' b = none) → ∀ b ∈ fp, FpOk (gCx X A sc x code s4 H4 fp) (q ++ ps) H' b := fun {H'} hn b hb => by
      obtain ⟨a1, a2, a3, a4⟩ := stat b hb
      refine ⟨hn b hb, a1, a2, .inl hb, fun y c e => (nc e).elim, fun p hp => ?_⟩
      rcases List.mem_append.mp (show p ∈ q ++ ps from hp) with z | z
      · exact a3 p z
      · cases So with
        | none =>
          have e : ps = [] := hps
          rw [e] at z
          simp at z
        | some S' =>
          obtain ⟨acc, c, e, _⟩ := hps
          rw [e] at z
          rw [List.mem_singleton.mp z]
          exact fun w => a4 (by rw [← w])
    show Seg _ A _ _ _ s₀ _ ((compTurn (.GeneratorExp elt [⟨.Name x px, iter, [], 0⟩] sc pos) 0 (.ref it) .none (gE X sc s4.heap.objs.size code)).onRaise (leaving (gE X sc s4.heap.objs.size code))) [] s
    rw [compTurn_gen, Sem.onRaise_eq_wrap]
    refine seg_bind_wrap (wpAny_standAt ?_)
    rcases step m ys H hW with ⟨stop, qn⟩ | ⟨go, st⟩
    · refine seg_bind_wrap (thn (T.done (gCx X A sc x code s4 H4 fp) rfl rfl rfl rfl ys.length (q ++ ps) s σ H _ I (fok hfn) htn stop) fun r s5 ⟨hr, I5⟩ => ?_)
      subst hr
      exact seg_end (.ok .next) (.inl ⟨.inr rfl, ys, σ, H, ps, hps, hs0, I5, qn⟩)
    · refine seg_bind_wrap (thn (T.item (gCx X A sc x code s4 H4 fp) rfl rfl rfl rfl ys.length (q ++ ps) s σ H _ I (fok hfn) htn go) fun r s5 ⟨u, hr, h5⟩ => ?_)
      subst hr
      refine seg_bind_wrap (thn h5 fun _ s6 ⟨v, H6, I6, r6, y6, tn6, fn6⟩ => ?_)
      have I6' := I6.pinned (fok fn6) (T.obj _ _ tn6)
      have pg : PG (gCx X A sc x code s4 H4 fp) (.Name x px) (gName 0) := pg_name (i := 0) (List.nodup_cons.mpr ⟨by simp, List.nodup_nil⟩) rfl (.inl S.loc) (.inr S.loc)
      have eσ : σ.set 0 (some v) = [some v] := by
        have hl : σ.length = 1 := I.len
        match σ, hl with
        | [_], _ => rfl
      refine seg_bind_wrap (wpAny_mono (pg.run _ s6 σ H6 v u (fun σ' H' => σ' = [some v] ∧ H' = H6) I6' r6 ⟨eσ, rfl⟩) (fun _ s7 h7 => ?_) fun _ _ z => z.elim)
      obtain ⟨σ7, H7, I7, eσ7, eH7⟩ := h7
      subst eσ7 eH7
      simp only [List.forIn_nil]
      refine seg_bind_wrap (wpAny_pure ?_)
      simp only [if_true]
      have hy : ∀ v, yieldOut (gE X sc s4.heap.objs.size code) v = yieldValue v := fun v => by
        simp only [yieldOut, show (gE X sc s4.heap.objs.size code).scope.isCoroutine = false from S.co, Bool.false_eq_true, if_false]
      simp only [hy]
      rw [Sem.bind_eq_wrap', Sem.bind_eq_wrap', Sem.wrap_wrap, Sem.wrap_wrap]
      refine seg_wrap (wpAny_mono (he.run _ s7 [some v] H7 _ I7 (st v H7 y6)) (fun w s8 h8 => ?_) fun _ _ z => z.elim)
      obtain ⟨y, H8, I8, r8, ny⟩ := h8
      have fn8 : ∀ b ∈ fp, H8 b = none := fun b hb => by
        obtain ⟨o, e, d⟩ := T.obj _ _ tn6 b hb
        exact (I8.pin (b, o) (List.mem_append_right _ (List.mem_append_right _ (mem_pinsAt hb e)))).2.1
      have tn8 : tn (ys.length + 1) s8.heap := T.keep _ _ _ tn6 fun b hb o e => (I8.pin (b, o) (List.mem_append_right _ (List.mem_append_right _ (mem_pinsAt hb e)))).1
      refine seg_at (seg_yield rfl rfl rfl ⟨m, ys, y, [some v], H8, ps, hm, r8, hps, hs0, I8.unpinned, ny, fun s9 wk m' hm' w' => ?_⟩)
      obtain ⟨ps', hps', I9, e9⟩ := woken I8.unpinned hps (fun p hp => hq p hp) (fun S' e => ⟨Nat.le_of_lt (hS S' e), Nat.ne_of_gt (hS S' e), fun y c e => (nc e).elim⟩) wk
      refine seg_again rfl (ih m' (ys ++ [y]) s9 s9 [some v] H8 ps' (by omega) hps' e9 w' I9 ?_ fn8)
      rw [List.length_append, List.length_singleton]
      exact T.keep _ _ _ tn8 fun b hb o e => wk.keep b o (stat b hb).2.2.2 e
end
end Gx
namespace Gx
open PySem PySem.Spec PyProof.Rows L2 GenW
section
variable {X : Cx} {pins : List (Addr × Obj)} {σ : L2.St} {H : Hp} {s : Shared} {sc : Scope} {x : Str}
theorem seg_begin {A : Around} {elt iter : Expr} {px pos : Pos} {it : Addr} {J : It} {fp : List Addr} {tn : Nat → Heap → Prop} {cenv : Env} {R : GenEnd} {Y : Protocol} {n : Nat} {s₀ : Shared}
    (T : Turn X.prog X.w X.K (.Name x px) J fp it tn) (ht : tn 0 s.heap)
    (loop : Seg (model X.prog X.w) A R Y n s₀ (.compLoop (.GeneratorExp elt [⟨.Name x px, iter, [], 0⟩] sc pos) 0 (.ref it) .none cenv) ((model X.prog X.w).den (.compLoop (.GeneratorExp elt [⟨.Name x px, iter, [], 0⟩] sc pos) 0 (.ref it) .none cenv)) [] s) :
    Seg (model X.prog X.w) A R Y n s₀ (.compStart (.GeneratorExp elt [⟨.Name x px, iter, [], 0⟩] sc pos) 0 (.ref it) .none cenv) ((model X.prog X.w).den (.compStart (.GeneratorExp elt [⟨.Name x px, iter, [], 0⟩] sc pos) 0 (.ref it) .none cenv)) [] s := by
  show Seg _ A R Y n s₀ _ ((compStart (.GeneratorExp elt [⟨.Name x px, iter, [], 0⟩] sc pos) 0 (.ref it) .none cenv).onRaise (leaving cenv)) [] s
  unfold compStart
  rw [Sem.onRaise_eq_wrap]
  show Seg _ A R Y n s₀ _ ((ask >>= _).wrap _ _ _ _) [] s
  refine seg_bind_wrap (wpAny_askSetting ?_)
  split
  · exact seg_again rfl loop
  · first
      | exact seg_bind_wrap (wpAny_rule (seg_bind_wrap (wpAny_standAt (seg_bind_wrap (T.self _ 0 s _ _ ht (seg_again rfl loop))))))
      | (refine seg_bind_wrap (wpAny_rule ?_); show Seg _ A R Y n s₀ _ ((standAt iter.pos >>= _).wrap _ _ _ _) [] s; exact seg_bind_wrap (wpAny_standAt (seg_bind_wrap (T.self _ 0 s _ _ ht (seg_again rfl loop)))))
/-- the reading of a generator expression: W the state between two turns, by a measure, what was handed out, the heap -/
def tGen (P : Addr) (wi : TI) (te : TE) (NyOf : WT → Nat → List V → V → Hp → Prop) (Ns : List V → Hp → Prop) : L2.St → Hp → Prop := fun σ H =>
  wi σ H fun J H1 => GxR.TabG H1 P ∧ ∀ H2, GxR.Tabbed P H1 H2 → ∃ W : WT, (∃ m, W m [] H2) ∧ ∀ m ys H, W m ys H →
    (J.stop ys.length H ∧ Ns ys H) ∨ (J.go ys.length H ∧ ∀ v H', J.yld ys.length H v H' → te [some v] H' (NyOf W m ys))
theorem code_step {A : Around} {E : Value → Shared → Prop} {Q : Value → Shared → Prop} {c P : Addr} {gpos : Pos} (I : Inv X pins σ H s) (TB : GxR.TabB X.base X.mg c P) (hcode : X.env.code = .ref c) (hT : GxR.TabG H P)
    (h : ∀ (code : Value) (H3 : Hp) (s3 : Shared), GxR.Tabbed P H H3 → Inv X pins σ H3 s3 → (∀ b o, b ≠ P → s.heap.get? b = some o → s3.heap.get? b = some o) → Q code s3) :
    wpAny (model X.prog X.w) A (genexprCode X.env gpos (X.env.qual ++ "<genexpr>") sc) Q E s := by
  obtain ⟨ps, hP, ht⟩ := id hT
  have hPs : s.heap.get? P = some { cls := .none, data := .fields ps } := I.hok P _ hP
  have cd : PySem.W.CodeHd s.heap c P := TB.code.keeps I.bk
  cases hf : codeAmong gpos ps.toList with
  | none =>
    refine wpAny_genexprCodeX hcode (cd.code hPs ht) (cd.tab hPs) hf fun c' h' tk hx hge hlt hco' _ htab' _ => ?_
    obtain ⟨o1, vs, f1, tf, fl, tg, inF, tx, tt, op, _, _, _, _, _, _, _, _, _, htr, _⟩ := hco'
    have J := GxR.inv_tab (t' := tk) (g' := s.gens) (d' := s.drawn) I hP (fun b o hb e => hx b o hb e) htab'.2 I.bare
    exact h _ _ _ ⟨⟨_, upd_same, htr⟩, fun b hb => upd_ne hb⟩ J fun b o hb e => hx b o hb e
  | some cv =>
    refine wpAny_genexprCode_hit hcode (cd.code hPs ht) hf ?_
    exact h _ H s ⟨hT, fun _ _ => rfl⟩ I fun _ _ _ e => e
end
end Gx
namespace Gx
open PySem PySem.Spec PyProof.Rows L2 GenW
section
variable {X : Cx} {pins : List (Addr × Obj)} {σ : L2.St} {H : Hp} {s : Shared} {sc : Scope} {x : Str}
/-- a generator that has not begun, at a in s5 -/
def Begun1 (X : Cx) (pins : List (Addr × Obj)) (σ : L2.St) (k : Nat) (Rel : List V → Array Value → Prop) (NyOf : WT → Nat → List V → V → Hp → Prop) (Ns : List V → Hp → Prop) (a : Addr) (s5 : Shared) : Prop :=
  ∃ (g : Nat) (c : Code) (H4 : Hp), s5.heap.IsGen a g ∧ s5.gens[g]? = some (.fresh c) ∧ Inv X pins σ H4 s5 ∧ a < s5.heap.objs.size ∧
    ∀ (A : Around) (So : Option Addr) (s6 : Shared), Room (k + 1) A → A.frames = some X.stack → (∀ S, So = some S → s5.heap.objs.size ≤ S ∧ ∃ acc c, s6.heap.get? S = some (lstObj acc c) ∧ Rel [] acc) →
      (∀ b o, s5.heap.get? b = some o → s6.heap.get? b = some o) → s6.os = s5.os → AllBare s6.gens →
      ∃ (Z : Cx) (q : List (Addr × Obj)) (W : WT) (m0 : Nat),
        (∀ ps σz Hz s7, Inv Z (q ++ ps) σz Hz s7 → Inv X pins σ Hz s7 ∧ s7.heap.IsGen a g) ∧
        Seg (model X.prog X.w) A (GRx Z q So Rel Ns) (GYx Z q So Rel W (NyOf W)) (m0 + 1) s6 c ((model X.prog X.w).den c) [] s6
theorem gx_make {elt iter : Expr} {px gpos : Pos} {c P : Addr} {wi : TI} {te : TE} {k j : Nat} {Rel : List V → Array Value → Prop} {NyOf : WT → Nat → List V → V → Hp → Prop} {Ns : List V → Hp → Prop} {Q' : Value → Shared → Prop}
    (hr : Room j X.A) (TB : GxR.TabB X.base X.mg c P) (hcode : X.env.code = .ref c) (S : GSc sc x) (hi : PI X (.Name x px) iter wi)
    (he : ∀ (A : Around) (code : Value) (s4 : Shared) (H4 : Hp) (fp : List Addr), Room k (A.deeper (gE X sc s4.heap.objs.size code)) → PE (gCx X A sc x code s4 H4 fp) elt te)
    (hs : ∀ v, genFold iter X.env v = pure v) (I : Inv X pins σ H s) (h : tGen P wi te NyOf Ns σ H)
    (hQ : ∀ a s5, Begun1 X pins σ k Rel NyOf Ns a s5 → Q' (.ref a) s5) :
    wpAny (model X.prog X.w) X.A (eval (.GeneratorExp elt [⟨.Name x px, iter, [], 0⟩] sc gpos) X.env) Q' X.xe s := by
  refine wpAny_GeneratorExp_make S.co (closure_ok fun y hy z => absurd z (S.free y hy)) S.cell S.dot S.kind hr.depth ?_ hs
  refine thn (hi.run pins s σ H _ I h) fun xv s1 h1 => thn h1 fun itv s2 h2 => ?_
  obtain ⟨it, fp, tn, J, H2, e, I2, T, st2, f2, hT, hW⟩ := h2
  subst e
  refine ⟨I2.nolimit, code_step I2 TB hcode hT fun code H3 s3 hTb I3 kp3 => ?_⟩
  obtain ⟨bm, ob, e1, e2, e3, e4, e5, e6, e7, e8⟩ := TB.bm
  refine wpAny_builtinsFor (m := X.mg) (by rw [I3.ok.glob]; exact I3.mod.glob.keeps I3.bk) e1 e2 (I3.bk _ _ e5) e6 e7 e8 fun h' hn' hs' => ?_
  obtain ⟨W, ⟨m0, w0⟩, step⟩ := hW H3 hTb
  have hTP : H2 P ≠ none := by
    obtain ⟨ps, z, _⟩ := hT
    rw [z]; exact fun q => nomatch q
  have nP : ∀ b ∈ fp, b ≠ P := fun b hb z => hTP (by rw [← z]; exact (f2 b hb).1)
  have f3 : ∀ b ∈ fp, FpOk X pins H3 b := fun b hb => ⟨(hTb.2 b (nP b hb)).trans (f2 b hb).1, (f2 b hb).2⟩
  have tn3 : tn 0 s3.heap := T.keep _ _ _ st2 fun b hb o q => kp3 b o (nP b hb) q
  have lt3 : ∀ b ∈ fp, b < s3.heap.objs.size := fun b hb => by
    obtain ⟨o, q, _⟩ := T.obj _ _ tn3 b hb
    exact Heap.lt_size q
  have hsz : h'.objs.size = s3.heap.objs.size + 1 := by rw [hs'.1, Heap.size_push]
  have kp' : ∀ b o, s3.heap.get? b = some o → h'.get? b = some o := fun b o q => hs'.extBut b o (Nat.ne_of_lt (Heap.lt_size q)) (Heap.get?_push_of_some _ q)
  refine hQ _ _ ⟨s3.gens.size, _, H3, ⟨_, _, _, Heap.get?_push_size _ rfl, rfl, rfl, rfl⟩, Array.getElem?_push_size .., ?_, ?_, fun A So s6 hrA hfr hSo kp6 os6 b6 => ?_⟩
  · exact regens I3 rfl (fun b o q => Heap.get?_push_of_some _ (kp' b o q)) (AllBare.push I3.bare rfl)
  · show h'.objs.size < (h'.push _).objs.size
    rw [Heap.size_push]; exact Nat.lt_succ_self _
  · have kp36 : ∀ b o, s3.heap.get? b = some o → s6.heap.get? b = some o := fun b o q => kp6 b o (Heap.get?_push_of_some _ (kp' b o q))
    have hns6 : s6.heap.Ns s3.heap.objs.size (fun y => if y = ".0" then some (.ref it) else none) := by
      obtain ⟨o, es, ep, ho, r⟩ := hn'
      exact ⟨o, es, ep, kp6 _ _ (Heap.get?_push_of_some _ ho), r⟩
    have IZ := gx_inv (code := code) (A := A) I3 S hrA.hd hfr f3 lt3 (s5 := s6) os6 b6 kp36 hns6
    have big : ∀ b, s3.heap.objs.size < b → H3 b = none ∧ b ≠ s3.heap.objs.size ∧ b ∉ frs X.stack := fun b hb => by
      refine ⟨I3.hok.fresh (Nat.le_of_lt hb), Nat.ne_of_gt hb, fun z => ?_⟩
      rcases List.mem_cons.mp (I3.stkSub b z) with w | w
      · exact absurd (Nat.lt_trans (by rw [w]; exact I3.lt) hb) (Nat.lt_irrefl _)
      · exact I3.nofs (Nat.le_of_lt hb) w
    have ha : s3.heap.objs.size < h'.objs.size := by rw [hsz]; exact Nat.lt_succ_self _
    have hga := kp6 h'.objs.size _ (Heap.get?_push_size _ rfl)
    have hSb : ∀ S', So = some S' → h'.objs.size < S' := fun S' z => by
      have q := (hSo S' z).1
      have q' : (h'.push _).objs.size ≤ S' := q
      rw [Heap.size_push] at q'
      exact q'
    obtain ⟨ps, hps, IZ2⟩ : ∃ ps, Held So (Rel []) ps ∧ Inv (gCx X A sc x code s3 H3 fp) ([(h'.objs.size, _)] ++ ps) [none] H3 s6 := by
      cases So with
      | none =>
        refine ⟨[], rfl, IZ.pins_of fun p hp => ?_⟩
        rw [List.append_nil] at hp
        rw [List.mem_singleton.mp hp]
        obtain ⟨b1, b2, b3⟩ := big _ ha
        exact ⟨hga, b1, b2, b3, fun v z => by cases z⟩
      | some S' =>
        obtain ⟨_, acc, cc, q2, hR⟩ := hSo S' rfl
        refine ⟨[(S', lstObj acc cc)], ⟨acc, cc, rfl, hR⟩, IZ.pins_of fun p hp => ?_⟩
        rcases List.mem_append.mp hp with z | z
        · rw [List.mem_singleton.mp z]
          obtain ⟨b1, b2, b3⟩ := big _ ha
          exact ⟨hga, b1, b2, b3, fun v z => by cases z⟩
        · rw [List.mem_singleton.mp z]
          obtain ⟨b1, b2, b3⟩ := big _ (Nat.lt_trans ha (hSb S' rfl))
          exact ⟨q2, b1, b2, b3, fun v z => by cases z⟩
    have hSne : ∀ b, b ≤ h'.objs.size → So ≠ some b := fun b hb z => absurd (Nat.lt_of_lt_of_le (hSb b z) hb) (Nat.lt_irrefl _)
    refine ⟨gCx X A sc x code s3 H3 fp, [(h'.objs.size, { cls := .type "generator", data := .fields #[.int s3.gens.size 0, .str "<genexpr>" (s3.toks + 1), .str (X.env.qual ++ "<genexpr>") (s3.toks + 1 + 1)] })], W, m0, fun ps σz Hz s7 J7 => ⟨?_, ?_⟩, ?_⟩
    · refine I3.call' (ch := fp) J7.os J7.base J7.hok J7.bare fun b hb => ?_
      obtain ⟨_, a2, _, a4, a5, a6⟩ := f3 b hb
      exact ⟨a4, a2, a5, a6⟩
    · exact ⟨_, _, _, (J7.pin _ (List.mem_append_right _ (List.mem_append_left _ (List.mem_singleton.mpr rfl)))).1, rfl, rfl, rfl⟩
    · refine seg_begin T (T.keep _ _ _ tn3 fun b hb o q => kp36 b o q) ?_
      refine seg_turns S T (fun b hb => ⟨Nat.ne_of_lt (lt3 b hb), fun z => ?_, fun p hp z => ?_, hSne b (Nat.le_of_lt (Nat.lt_trans (lt3 b hb) ha))⟩) (fun p hp => ?_) (fun S' z => Nat.lt_trans ha (hSb S' z)) (he A code s3 H3 fp (hrA.deeper _)) step
        (m0 + 1) m0 [] s6 s6 [none] H3 ps (Nat.lt_succ_self _) hps (fun p hp => (IZ2.pin p (List.mem_append_right _ (List.mem_append_right _ hp))).1) w0 IZ2 (T.keep _ _ _ tn3 fun b hb o q => kp36 b o q) fun b hb => (f3 b hb).1
      · rcases List.mem_cons.mp (I3.stkSub b z) with w | w
        · exact (f3 b hb).2.1 w
        · exact (f3 b hb).2.2.1 w
      · rw [List.mem_singleton.mp hp] at z
        have q : h'.objs.size = b := z
        exact absurd (Nat.lt_trans (lt3 b hb) ha) (by rw [q]; exact Nat.lt_irrefl _)
      · rw [List.mem_singleton.mp hp]
        exact hSne _ (Nat.le_refl _)
end
end Gx
namespace Gx
open PySem PySem.Spec PyProof.Rows L2 GenW
section
variable {X : Cx} {pins : List (Addr × Obj)} {σ : L2.St} {H : Hp} {s : Shared} {sc : Scope} {x : Str}
def NyAll (Qb : Bool → Hp → Prop) (W : WT) : Nat → List V → V → Hp → Prop := fun m ys y H => ∃ b : Bool, y = .bl b ∧ if b = true then ∃ m', m' < m ∧ W m' (ys ++ [y]) H else Qb false H
abbrev noRel : List V → Array Value → Prop := fun _ _ => True
theorem all_turns {Z : Cx} {q : List (Addr × Obj)} {W : WT} {Qb : Bool → Hp → Prop} {A : Around} {a : Addr} {g : Nat} {Rr : Result → Shared → Prop} (hh : A.handled = none) (hd : A.depth < recursionLimit)
    (fin : ∀ ps σz Hz s7, Inv Z (q ++ ps) σz Hz s7 → Inv X pins σ Hz s7 ∧ s7.heap.IsGen a g)
    (hdone : ∀ b H' s', Inv X pins σ H' s' → Qb b H' → Rr (.ok (.ret (.bool b))) s') :
    ∀ (n : Nat) (s : Shared), s.heap.IsGen a g → s.heap.NoLimit →
      (∃ gs, s.gens[g]? = some gs ∧ gs.Goes (model X.prog X.w) A.in1.in1 (GRx Z q none noRel fun _ => Qb true) (GYx Z q none noRel W (NyAll Qb W)) n (.send .none) (s.setGen g .running)) →
      codeAny (model X.prog X.w) A (.builtin "all.loop" ⟨[.ref a], []⟩) Rr s := by
  intro n
  induction n using Nat.strongRecOn with
  | ind n ih =>
    intro s hg hl ⟨gs, hgs, hgo⟩
    have hgl : g < s.gens.size := (Array.getElem?_eq_some_iff.mp hgs).1
    refine codeAny_builtin F.entry_all_loop ?_; rw [Around.under_plainId F.plain_all_loop _]
    show wpAny _ A.in1 (pyNext (.ref a) >>= _) _ _ s
    refine wpAny_bind (wpAny_gsz (n := g + 1) hgl (next_genG (A := A.in1) hh hl hd hg hgs hgo (fun v s₁ gs' hbare hv => ?_) (fun s₁ hp h' hk => ?_) fun e s₁ he => he.elim))
    · intro hsz
      obtain ⟨m, ys, y, σz, Hz, ps, hm, rv, hps, _, J, ⟨b, eb, hb⟩, hkap⟩ := hv
      subst eb
      have eps : ps = [] := hps
      subst eps
      have ev : v = Value.bool b := rv
      subst ev
      obtain ⟨I1, g1⟩ := fin _ _ _ _ J
      have hsz1 : g < s₁.gens.size := by
        have q1 : (s₁.setGen g gs').gens.size = s₁.gens.size := setGen_size _ _ _
        have q2 : g + 1 ≤ (s₁.setGen g gs').gens.size := hsz
        omega
      have bare2 : AllBare (s₁.setGen g gs').gens := allBare_setGen I1.bare hbare
      refine wpAny_bind (wpAny_holding (wpAny_truthy_bool ?_))
      refine wpAny_bind (wpAny_letGo ?_)
      cases b with
      | true =>
        obtain ⟨m', hm', hw⟩ : ∃ m', m' < m ∧ W m' (ys ++ [V.bl true]) Hz := by simpa using hb
        simp only [if_true]
        cases n with
        | zero => omega
        | succ n =>
          refine wpAny_pure ⟨plainId_quiet F.plain_all_loop _, ih n (Nat.lt_succ_self n) (s₁.setGen g gs') g1 I1.nolimit ⟨gs', setGen_at hsz1, ?_⟩⟩
          exact hkap ((s₁.setGen g gs').setGen g .running) ⟨rfl, allBare_setGen bare2 rfl, fun b o _ e => e, fun S z => by cases z⟩ m' hm' hw
      | false =>
        have hq : Qb false Hz := by simpa using hb
        simp only [Bool.false_eq_true, if_false]
        exact wpAny_bind (wpAny_rule (wpAny_pure (hdone false Hz _ (regens I1 rfl (fun _ _ e => e) bare2) hq)))
    · intro hsz
      obtain ⟨ys, σz, Hz, ps, hps, _, J, hq⟩ := hp
      have eps : ps = [] := hps
      subst eps
      obtain ⟨I1, g1⟩ := fin _ _ _ _ J
      exact wpAny_bind (wpAny_rule (wpAny_pure (hdone true Hz _ (regens I1 rfl (fun b o e => hk b o e) (allBare_setGen I1.bare rfl)) hq)))
/-- all(elt for x in iter) -/
def tAllG (P : Addr) (wi : TI) (te : TE) : TE := fun σ H Q => tGen P wi te (NyAll fun b H => Q (.bl b) H) (fun _ H => Q (.bl true) H) σ H
theorem pe_allG {elt iter : Expr} {px p pos gpos : Pos} {c P : Addr} {wi : TI} {te : TE} {k : Nat}
    (hr : Room (k + 3) X.A) (hg : Gl X "all") (hm : X.mg "all" = none) (TB : GxR.TabB X.base X.mg c P) (hcode : X.env.code = .ref c) (S : GSc sc x) (hi : PI X (.Name x px) iter wi)
    (he : ∀ (A : Around) (code : Value) (s4 : Shared) (H4 : Hp) (fp : List Addr), Room k (A.deeper (gE X sc s4.heap.objs.size code)) → PE (gCx X A sc x code s4 H4 fp) elt te)
    (hs : ∀ v, genFold iter X.env v = pure v)
    (hst : starEach [.GeneratorExp elt [⟨.Name x px, iter, [], 0⟩] sc gpos] X.env = (false, eval (.GeneratorExp elt [⟨.Name x px, iter, [], 0⟩] sc gpos) X.env) :: starEach [] X.env := by rfl) :
    PE X (.Call (.Name "all" p) [.GeneratorExp elt [⟨.Name x px, iter, [], 0⟩] sc gpos] [] pos) (tAllG P wi te) := by
  refine ⟨fun pins s σ H Q I h => ?_⟩
  have hb : bootBuiltins "all" = some (.builtin "all") := by decide +kernel
  refine wpAny_Call_Name_kw (ld_blt I hg hm hb (PyProof.Rows.callWith_builtin1 ?_ hst (by rfl)))
  rw [hst]
  show wpAny _ _ (spliced ((false, eval (.GeneratorExp elt [⟨.Name x px, iter, [], 0⟩] sc gpos) X.env) :: backTo pos (starEach [] X.env))) _ _ s
  refine Calls.spliced_cons (gx_make (k := k) (Rel := noRel) hr TB hcode S hi he hs I h fun a s5 hB => Calls.spliced_nil ?_)
  obtain ⟨g, cd, H4, hgen, hfresh, I5, ha, wake⟩ := hB
  refine call_function_tree F.kind_all F.plain_all F.entry_all (F.args_all1 _) ?_
  unfold Builtin.«all»
  refine wpAny_bind (m := oneArg "all" _) (wpAny_pure (wpAny_bind (wpAny_pyIter_gen hgen ?_)))
  obtain ⟨Z, q, W, m0, fin, seg⟩ := wake X.A.in1.in1 none (s5.setGen g .running) ((hr.mono (by omega : k + 1 + 1 + 1 ≤ k + 3)).in1.in1) I.ok.frames (fun S z => by cases z) (fun _ _ e => e) rfl (allBare_setGen I5.bare rfl)
  refine wpAny_pure ⟨plainId_quiet F.plain_all_loop _, all_turns (Qb := fun b H => Q (.bl b) H) hr.hd hr.depth fin (fun b H' s' I' hq => ?_) (m0 + 1) s5 hgen I5.nolimit ⟨_, hfresh, rfl, seg⟩⟩
  exact ⟨.bl b, H', I', rfl, hq⟩
end
end Gx
namespace Gx
open PySem PySem.Spec PyProof.Rows L2 GenW
section
variable {X : Cx} {pins : List (Addr × Obj)} {σ : L2.St} {H : Hp} {s : Shared} {sc : Scope} {x : Str}
def MaxRel (ys : List V) (acc : Array Value) : Prop :=
  ∃ ns : List Int, ys = ns.map V.int ∧ ((ns = [] ∧ acc = #[]) ∨ ∃ b t, acc = #[.int b t, .int b t] ∧ b ∈ ns ∧ ∀ z ∈ ns, z ≤ b)
def NsMax (Qm : Int → Hp → Prop) : List V → Hp → Prop := fun ys H => ∃ ns : List Int, ys = ns.map V.int ∧ ns ≠ [] ∧ ∀ b, b ∈ ns → (∀ z ∈ ns, z ≤ b) → Qm b H
theorem map_int_inj {a b : List Int} (h : a.map V.int = b.map V.int) : a = b := by
  induction a generalizing b with
  | nil => cases b with
    | nil => rfl
    | cons _ _ => cases h
  | cons x a ih => cases b with
    | nil => cases h
    | cons y b =>
      rw [List.map_cons, List.map_cons] at h
      injection h with h1 h2
      injection h1 with h1
      rw [h1, ih h2]
theorem MaxRel.first {i : Int} {t : Tok} {ys : List V} (h : MaxRel ys #[]) : MaxRel (ys ++ [.int i]) #[.int i t, .int i t] := by
  obtain ⟨ns, rfl, h | ⟨b, u, e, _⟩⟩ := h
  · rw [h.1]
    exact ⟨[i], rfl, .inr ⟨i, t, rfl, by simp, by simp⟩⟩
  · have := congrArg Array.size e
    simp at this
theorem MaxRel.more {i b : Int} {t u : Tok} {ys : List V} (h : MaxRel ys #[.int b u, .int b u]) : MaxRel (ys ++ [.int i]) (if decide (i > b) = true then #[.int i t, .int i t] else #[.int b u, .int b u]) := by
  obtain ⟨ns, rfl, h | ⟨b', u', e, hb, hm⟩⟩ := h
  · have := congrArg Array.size h.2
    simp at this
  · have e' : b = b' := by
      have := congrArg (fun a : Array Value => a[0]?) e
      simp at this
      exact this.1
    subst e'
    refine ⟨ns ++ [i], by simp, .inr ?_⟩
    by_cases hi : i > b
    · rw [if_pos (decide_eq_true hi)]
      refine ⟨i, t, rfl, by simp, fun z hz => ?_⟩
      rcases List.mem_append.mp hz with q | q
      · exact Int.le_of_lt (Int.lt_of_le_of_lt (hm z q) hi)
      · rw [List.mem_singleton.mp q]; exact Int.le_refl _
    · rw [if_neg (by rw [decide_eq_false hi]; exact Bool.false_ne_true)]
      refine ⟨b, u, rfl, List.mem_append_left _ hb, fun z hz => ?_⟩
      rcases List.mem_append.mp hz with q | q
      · exact hm z q
      · rw [List.mem_singleton.mp q]; omega
theorem MaxRel.last {b : Int} {u : Tok} {ys : List V} {Qm : Int → Hp → Prop} (h : MaxRel ys #[.int b u, .int b u]) (q : NsMax Qm ys H) : Qm b H := by
  obtain ⟨ns, rfl, h | ⟨b', u', e, hb, hm⟩⟩ := h
  · have := congrArg Array.size h.2
    simp at this
  · have e' : b = b' := by
      have := congrArg (fun a : Array Value => a[0]?) e
      simp at this
      exact this.1
    subst e'
    obtain ⟨ms, e1, _, hq⟩ := q
    rw [map_int_inj e1] at hb hm
    exact hq b hb hm
theorem MaxRel.none {ys : List V} {Qm : Int → Hp → Prop} (h : MaxRel ys #[]) (q : NsMax Qm ys H) : False := by
  obtain ⟨ns, rfl, h | ⟨b', u', e, hb, hm⟩⟩ := h
  · obtain ⟨ms, e1, h2, _⟩ := q
    rw [h.1] at e1
    exact h2 (map_int_inj e1).symm
  · have := congrArg Array.size e
    simp at this
end
end Gx
namespace TG
open PySem L2
def top (i : Nat) : Stmt := PySem.Challenge.pw_tabgrow_k36_whole_hands_beside.main.body.getD i (.Pass ⟨0, 0, 0, 0⟩)
abbrev s_is_whole : Stmt := top 20
abbrev s_is_sign : Stmt := top 21
abbrev s_is_text : Stmt := top 22
abbrev s_filled : Stmt := top 23
abbrev s_is_row : Stmt := top 24
abbrev s_misfit : Stmt := top 25
abbrev s_check_page : Stmt := top 26
abbrev s_check_style : Stmt := top 27
abbrev s_written : Stmt := top 29
abbrev s_rows_of : Stmt := top 30
abbrev s_begun : Stmt := top 40
abbrev s_take : Stmt := top 41
abbrev s_alike : Stmt := top 42
abbrev s_sign : Stmt := top 43
abbrev s_cell : Stmt := top 44
abbrev s_row : Stmt := top 45
abbrev s_page : Stmt := top 46
abbrev s_style : Stmt := top 47
abbrev s_could : Stmt := top 48
abbrev s_done : Stmt := top 49
abbrev s_law : Stmt := top 50
/-- the built-ins that the text calls are the built-ins still -/
structure Txt (mg : Str → Option Value) : Prop where
  isin : mg "isinstance" = none
  len : mg "len" = none
  range : mg "range" = none
  max : mg "max" = none
  min : mg "min" = none
  all : mg "all" = none
  str : mg "str" = none
  int : mg "int" = none
  bool : mg "bool" = none
  list : mg "list" = none
  tuple : mg "tuple" = none
  enum : mg "enumerate" = none
  ord : mg "ord" = none
def BoxAt (H : Hp) (b l : Addr) : Prop := ∃ (ns : List Int) (st : Int), H b = some (.lst [.ref l, .int st]) ∧ H l = some (.lst (ns.map V.int)) ∧ ns.length ≤ 63
/-- all but the box stays -/
def KB (b l : Addr) (H H' : Hp) : Prop := ∀ c o, H c = some o → c ≠ b → c ≠ l → H' c = some o
theorem KB.refl {b l : Addr} {H : Hp} : KB b l H H := fun _ _ h _ _ => h
theorem KB.trans {b l : Addr} {H H1 H2 : Hp} (x : KB b l H H1) (y : KB b l H1 H2) : KB b l H H2 := fun c o h n m => y c o (x c o h n m) n m
theorem box_ne {H : Hp} {b l : Addr} (x : BoxAt H b l) : b ≠ l := by
  obtain ⟨ns, st, h1, h2, _⟩ := x
  refine ne_of h1 h2 fun z => ?_
  injection z with z
  cases ns with
  | nil => cases z
  | cons n ns =>
    rw [List.map_cons] at z
    injection z with z _
    cases z
theorem nz {i : Int} (h : i ≠ 0) : i ≠ 0 := h
theorem at0 {α : Type} {v : α} {xs : List α} : atI (v :: xs) 0 = some v := atI_nat (j := 0) rfl
theorem ix0 {n : Nat} : ixN (n + 1) 0 = some 0 := by
  unfold ixN
  rw [if_pos (by decide), if_pos (by omega)]
  rfl
theorem small0 : ([] : List V).length ≤ sizeLine := Nat.zero_le _
theorem dp_ints {K : PySem.W.Frag} {H : Hp} : ∀ ns : List Int, DpAll K H (ns.map V.int) (ns.map PyData.int)
  | [] => .nil
  | n :: ns => .cons (.int n) (dp_ints ns)
theorem canAll_ints : ∀ ns : List Int, PyData.canLayAll0 (ns.map PyData.int) = true
  | [] => rfl
  | _ :: r => by simp [PyData.canLayAll0, PyData.canLay0, canAll_ints r]
theorem depthAll_ints : ∀ ns : List Int, PyData.depthAll (ns.map PyData.int) = 0
  | [] => rfl
  | _ :: r => by simp [PyData.depthAll, PyData.depth, depthAll_ints r]
theorem shaped_of_ints (ns : List Int) : SeqAt.shaped (.list (ns.map PyData.int)) = true := by
  simp [SeqAt.shaped, PyData.canLay0, PyData.depth, canAll_ints, depthAll_ints]
def spTake : Sp := fun vs H Q _ => ∃ (b l : Addr) (many : Int), vs = [.ref b, .int many] ∧ BoxAt H b l ∧ 0 < many ∧ many < 1073741824 ∧
  ∀ (r : Int) (H' : Hp), 0 ≤ r → r < many → BoxAt H' b l → KB b l H H' → Q (.int r) H'
section
variable {P : Program} {w : World} {K : PySem.W.Frag} {mg : Str → Option Value} {base : Heap}
theorem sc_take : FnScope ["_law_box", "_law_many", "_law_number"] ["_law_box", "_law_many"] (defScope s_take) := ⟨rfl, rfl, rfl, by decide +kernel, rfl, by decide +kernel, by decide +kernel⟩
theorem ok_take {f : Addr} {fd : FuncData} (F : Fun K "_law_take" "_law_take" s_take f fd) : FnOk P w K mg base CX0 1 f fd ["_law_box", "_law_many"] spTake := by
  refine F.ok sc_take (fun vs H Q E h => ?_) (fun cdv A outer s H vs Q E hr h => ?_)
  · obtain ⟨b, l, many, rfl, _⟩ := h
    rfl
  · obtain ⟨b, l, many, rfl, hB, m0, m1, k⟩ := h
    have nd := sc_take.nd
    have hu := hr.units
    refine ⟨_, pss_cons (ps_if (pt_cmpR (op_eqD hu) (pe_ix ix_list (pv 0) pe_int (fun _ _ => rfl)) (pe_lst pa_nil) (nomark _))
        (pss_cons (ps_asg (pe_op op_modN (pe_op op_mul (pe_ix ix_list (pv 0) pe_int (fun _ _ => rfl)) pe_int) pe_int) (pg_sub (pv 0) pe_int set_list))
          (pss_one (ps_ret (pe_op op_modN (pe_op op_fdivN (pe_ix ix_list (pv 0) pe_int (fun _ _ => rfl)) pe_int) (pv 1))))) pss_nil)
      (pss_cons (ps_set (i := 2) nd rfl (.inl rfl) (pe_ix ix_list (pe_ix ix_list (pv 0) pe_int (fun _ _ => rfl)) pe_int (fun _ _ => rfl)))
      (pss_cons (ps_asg (pe_op op_fdivN (pv 2) (pv 1)) (pg_sub (pe_ix ix_list (pv 0) pe_int (fun _ _ => rfl)) pe_int set_list))
      (pss_cons (ps_if (PW.pt (pw_or (pt_cmpR op_eq (pe_ix ix_list (pe_ix ix_list (pv 0) pe_int (fun _ _ => rfl)) pe_int (fun _ _ => rfl)) pe_int (nomark _)) (pw_or1 (pt_cmpR op_eq (pe_ix ix_list (pe_ix ix_list (pv 0) pe_int (fun _ _ => rfl)) pe_int (fun _ _ => rfl)) (pe_un un_neg pe_int) (nomark _)))))
          (pss_one (ps_expr (pe_bm PySem.F.plainAttrs_list PySem.F.slot_list_pop PySem.F.type_list_pop mt_popAt (pe_ix ix_list (pv 0) pe_int (fun _ _ => rfl)) (pa_cons pe_int pa_nil)))) pss_nil)
      (pss_one (ps_ret (pe_op op_modN (pv 2) (pv 1))))))), ?_⟩
    obtain ⟨ns, st, h1, h2, h3⟩ := id hB
    have nbl := box_ne hB
    have len2 : ∀ o, (upd H b o) l = some (.lst (ns.map V.int)) := fun o => by rw [upd_ne nbl.symm]; exact h2
    -- _law_box[0] == []
    refine ⟨_, rfl, b, _, 0, .ref l, rfl, rfl, SqL.of h1, rfl, small0, fun p np => ?_⟩
    have npb : b ≠ p := ne_of_none h1 np
    have npl : l ≠ p := ne_of_none h2 np
    have g1 : (upd H p (.lst [])) b = some (.lst [.ref l, .int st]) := by rw [upd_ne npb]; exact h1
    have g2 : (upd H p (.lst [])) l = some (.lst (ns.map V.int)) := by rw [upd_ne npl]; exact h2
    have kp : KB b l H (upd H p (.lst [])) := fun c o e _ _ => by rw [upd_ne (ne_of_none e np)]; exact e
    refine ⟨.list (ns.map PyData.int), .list [], .lst (SqL.of g2) (dp_ints ns), .lst (SqL.of upd_same) .nil, shaped_of_ints ns, rfl, _, rfl, ?_⟩
    cases ns with
    | nil =>
      refine iteT ?_
      refine ⟨_, rfl, b, _, 1, .int st, rfl, rfl, SqL.of g1, rfl, st, 48271, rfl, rfl, .inr (by decide), _, _, rfl, rfl, nz (by decide), _, rfl, b, _, 1, 1, rfl, rfl, g1, rfl, ?_⟩
      refine ⟨_, rfl, b, _, 1, _, rfl, rfl, SqL.of upd_same, rfl, _, _, rfl, rfl, ⟨by decide, by decide⟩, _, rfl, _, _, rfl, rfl, nz (by omega), ?_⟩
      refine k _ _ (Int.fmod_nonneg_of_pos _ m0) (Int.fmod_lt_of_pos _ m0) ⟨[], _, upd_same, by rw [upd_ne nbl.symm]; exact g2, h3⟩ fun c o e hc hl => ?_
      rw [upd_ne hc]
      exact kp c o e hc hl
    | cons n ns =>
      refine iteF ?_
      refine ⟨_, rfl, b, _, 0, .ref l, rfl, rfl, SqL.of g1, rfl, l, _, 0, .int n, rfl, rfl, SqL.of g2, at0, ?_⟩
      refine ⟨_, rfl, _, rfl, n, many, rfl, rfl, ⟨by omega, by omega⟩, _, rfl, b, _, 0, .ref l, rfl, rfl, SqL.of g1, rfl, l, _, 0, 0, rfl, rfl, g2, ix0, ?_⟩
      have j1 : ∀ o, (upd (upd H p (.lst [])) l o) b = some (.lst [.ref l, .int st]) := fun o => by rw [upd_ne nbl]; exact g1
      have kl : ∀ o, KB b l H (upd (upd H p (.lst [])) l o) := fun o c u e hc hl => by rw [upd_ne hl]; exact kp c u e hc hl
      have fin : ∀ ms : List Int, ms.length ≤ 63 → Q (.int (n.fmod many)) (upd (upd H p (.lst [])) l (.lst (ms.map V.int))) := fun ms hm =>
        k _ _ (Int.fmod_nonneg_of_pos _ m0) (Int.fmod_lt_of_pos _ m0) ⟨ms, st, j1 _, upd_same, hm⟩ (kl _)
      have e0 : (List.map V.int (n :: ns)).set 0 (V.int (n.fdiv many)) = List.map V.int (n.fdiv many :: ns) := rfl
      rw [e0]
      -- == 0 or == -1
      refine ⟨_, rfl, b, _, 0, .ref l, rfl, rfl, SqL.of (j1 _), rfl, l, _, 0, .int (n.fdiv many), rfl, rfl, SqL.of upd_same, at0, rfl, _, rfl, ?_⟩
      have done : ∀ H', (∃ ms : List Int, ms.length ≤ 63 ∧ H' = upd (upd H p (.lst [])) l (.lst (ms.map V.int))) → ∃ v, ([some (V.ref b), some (V.int many), some (V.int n)] : L2.St)[2]? = some (some v) ∧ ∃ v_1, ([some (V.ref b), some (V.int many), some (V.int n)] : L2.St)[1]? = some (some v_1) ∧ ∃ i j, v = V.int i ∧ v_1 = V.int j ∧ j ≠ 0 ∧ Q (V.int (i.fmod j)) H' := fun H' ⟨ms, hm, e⟩ => by
        subst e
        exact ⟨_, rfl, _, rfl, n, many, rfl, rfl, nz (by omega), fin ms hm⟩
      have pop : ∀ Z : VK, (∀ y H', H' = upd (upd H p (.lst [])) l (.lst (ns.map V.int)) → Z y H') → rPopAt (.ref l) [.int 0] (upd (upd H p (.lst [])) l (.lst (List.map V.int (n.fdiv many :: ns)))) Z := fun Z hZ =>
        ⟨l, _, 0, 0, _, rfl, rfl, upd_same, by decide, by decide, by simp [seqIndex?], rfl, hZ _ _ (by rw [upd_upd]; rfl)⟩
      have h3' : ns.length ≤ 63 := by simp at h3; omega
      by_cases hz : n.fdiv many = 0
      · rw [decide_eq_true (show V.int (n.fdiv many) = V.int 0 by rw [hz])]
        refine iteT (iteT ⟨_, rfl, b, _, 0, .ref l, rfl, rfl, SqL.of (j1 _), rfl, .inl ⟨rfl, _, SqL.of upd_same⟩, pop _ fun y H' e => done H' ⟨ns, h3', e⟩⟩)
      · rw [decide_eq_false (show ¬ V.int (n.fdiv many) = V.int 0 from fun z => hz (by injection z))]
        refine iteF ⟨_, rfl, b, _, 0, .ref l, rfl, rfl, SqL.of (j1 _), rfl, l, _, 0, .int (n.fdiv many), rfl, rfl, SqL.of upd_same, at0, 1, rfl, rfl, _, rfl, ?_⟩
        refine ite2 (fun _ => ⟨_, rfl, b, _, 0, .ref l, rfl, rfl, SqL.of (j1 _), rfl, .inl ⟨rfl, _, SqL.of upd_same⟩, pop _ fun y H' e => done H' ⟨ns, h3', e⟩⟩) fun _ => ?_
        exact done _ ⟨n.fdiv many :: ns, h3, rfl⟩
end
end TG
namespace TG
open PySem L2
section
variable {P : Program} {w : World} {K : PySem.W.Frag} {mg : Str → Option Value} {base : Heap}
def spBegun (K : PySem.W.Frag) : Sp := fun vs H Q _ => ∃ (a : Addr) (ns : List Int), vs = [.ref a] ∧ SqL K H a (ns.map V.int) ∧ ns.length ≤ 63 ∧
  ∀ (b l : Addr) (H' : Hp), BoxAt H' b l → Same H H' → H b = none → H l = none → Q (.ref b) H'
theorem sc_begun : FnScope ["_law_script", "_law_stirred", "_law_cell_here"] ["_law_script"] (defScope s_begun) := ⟨rfl, rfl, rfl, by decide +kernel, rfl, by decide +kernel, by decide +kernel⟩
theorem ok_begun {f : Addr} {fd : FuncData} (T : Txt mg) (F : Fun K "_law_begun" "_law_begun" s_begun f fd) : FnOk P w K mg base CX0 1 f fd ["_law_script"] (spBegun K) := by
  refine F.ok sc_begun (fun vs H Q E h => ?_) (fun cdv A outer s H vs Q E hr h => ?_)
  · obtain ⟨a, ns, rfl, _⟩ := h
    rfl
  · obtain ⟨a, ns, rfl, hS, hl, k⟩ := h
    have nd := sc_begun.nd
    refine ⟨_, pss_cons (ps_set (i := 1) nd rfl (.inl rfl) pe_int) (pss_cons (ps_for PassesOwn.never rfl (pi_list (pv 0)) (pg_name (i := 2) nd rfl (.inl rfl))
        (pss_one (ps_set (i := 1) nd rfl (.inl rfl) (pe_op op_modN (pe_op op_add (pe_op op_add (pe_op op_mul (pv 1) pe_int) (pe_op op_mul (pv 2) pe_int)) pe_int) pe_int))))
      (pss_one (ps_ret (pe_lst (pa_cons (pe_callTy call_list_of (by rfl) T.list (by decide +kernel) (pa_cons (pv 0) pa_nil))
        (pa_cons (pe_op op_mul (pv 1) (pe_callTy call_int1 (by rfl) T.int (by decide +kernel) (pa_cons (pe_cmpR op_gt (pe_callB call_len_seq (by rfl) T.len PySem.boot_len (pa_cons (pv 0) pa_nil)) pe_int (nomark _)) pa_nil))) pa_nil)))))), ?_⟩
    refine ⟨_, rfl, a, rfl, ⟨_, hS⟩, for_list (xs := ns.map V.int) (fun _ σ H1 => H1 = H ∧ ∃ st c, σ = [some (.ref a), some (.int st), c]) ⟨rfl, 0, _, rfl⟩ (fun i σ H1 _ p => by rw [p.1]; exact hS) ?_ ?_⟩
    · rintro i x σ H1 hx ⟨rfl, st, c, rfl⟩
      obtain ⟨n, rfl⟩ : ∃ n, x = V.int n := by
        rw [List.getElem?_map] at hx
        cases e : ns[i]? with
        | none => rw [e] at hx; cases hx
        | some n => rw [e] at hx; cases hx; exact ⟨n, rfl⟩
      exact ⟨_, rfl, st, 48271, rfl, rfl, .inr (by decide), _, rfl, n, 69621, rfl, rfl, .inr (by decide), _, _, rfl, rfl, _, 11, rfl, rfl, _, 2147483647, rfl, rfl, nz (by decide), rfl, _, _, rfl⟩
    · rintro σ H1 ⟨rfl, st, c, rfl⟩
      refine ⟨_, rfl, a, _, rfl, .inl hS, fun l nl => ?_⟩
      have hS2 : SqL K (upd H1 l (.lst (ns.map V.int))) a (ns.map V.int) := by
        rcases hS with (z | ⟨o, z⟩) | z
        · exact .inl (.inl (by rw [upd_ne (ne_of_none z nl)]; exact z))
        · exact .inl (.inr ⟨o, by rw [upd_ne (ne_of_none z nl)]; exact z⟩)
        · exact .inr z
      refine ⟨_, rfl, _, rfl, a, _, rfl, .inl hS2, _, 2, rfl, rfl, .inr ⟨_, rfl, st, _, rfl, rfl, .inr (by split <;> decide), (by show 2 ≤ sizeLine; decide), fun b nb => ?_⟩⟩
      have nb1 : H1 b = none := by
        by_cases e : b = l
        · rw [e, upd_same] at nb; cases nb
        · rw [upd_ne e] at nb; exact nb
      have nlb : l ≠ b := fun z => by rw [← z, upd_same] at nb; cases nb
      refine k b l _ ⟨ns, _, upd_same, by rw [upd_ne nlb, upd_same], hl⟩ (fun c o e => ?_) nb1 nl
      rw [upd_ne (ne_of_none e nb1), upd_ne (ne_of_none e nl)]
      exact e
theorem ty_list {H : Hp} {a : Addr} {xs : List V} (h : SqL K H a xs) : TyX K H (.ref a) (.type "list") := by
  rcases h with (z | ⟨o, z⟩) | ⟨o, its, n, z, c, _⟩
  · exact .base (.lst z)
  · exact .base (.frz z)
  · exact .kList z c
theorem ty_tup {H : Hp} {a : Addr} {xs : List V} (h : SqT K H a xs) : TyX K H (.ref a) (.type "tuple") := by
  rcases h with (z | ⟨o, z⟩) | ⟨o, its, n, z, c, _⟩
  · exact .base (.tup z)
  · exact .fTuple z
  · exact .kTuple z c
end
end TG
namespace Gx
open PySem PySem.Spec PyProof.Rows L2 GenW
section
variable {J : It} {n : Nat} {G : Hp → Prop} {Y : Nat → Hp → V → Hp → Prop}
/-- all over a walk whose i-th element is f i -/
theorem all_by (w : Walk J n G Y) {te : TE} {Q : VK} {H2 : Hp} (f : Nat → Bool) (Pv : Nat → Hp → Prop) (h0 : Pv 0 H2) (hG : ∀ i H, i ≤ n → Pv i H → G H)
    (hs : ∀ i v H H', i < n → Pv i H → Y i H v H' → ∀ Z : VK, (∀ H3, Pv (i + 1) H3 → Z (.bl (f i)) H3) → te [some v] H' Z)
    (hT : ∀ H, Pv n H → (∀ i, i < n → f i = true) → Q (.bl true) H) (hF : ∀ i H, i < n → f i = false → Pv (i + 1) H → Q (.bl false) H) :
    ∃ W : WT, (∃ m, W m [] H2) ∧ ∀ m ys H, W m ys H → (J.stop ys.length H ∧ (fun (_ : List V) H => Q (.bl true) H) ys H) ∨
      (J.go ys.length H ∧ ∀ v H', J.yld ys.length H v H' → te [some v] H' (NyAll (fun b H => Q (.bl b) H) W m ys)) := by
  refine ⟨fun m ys H => m = n - ys.length ∧ ys.length ≤ n ∧ Pv ys.length H ∧ ∀ i, i < ys.length → f i = true, ⟨n, by simp, Nat.zero_le _, h0, fun i hi => absurd hi (Nat.not_lt_zero _)⟩, ?_⟩
  rintro m ys H ⟨rfl, hl, hp, ht⟩
  have q := hG _ H hl hp
  by_cases hlt : ys.length < n
  · refine .inr ⟨w.goes _ H hlt q, fun v H' y => hs _ v H H' hlt hp (w.yields _ H v H' hlt q y) _ fun H3 p3 => ⟨f ys.length, rfl, ?_⟩⟩
    cases hf : f ys.length with
    | true =>
      refine iteT ⟨n - (ys.length + 1), by omega, by rw [List.length_append, List.length_singleton], by rw [List.length_append, List.length_singleton]; exact hlt, by rw [List.length_append, List.length_singleton]; exact p3, fun i hi => ?_⟩
      rw [List.length_append, List.length_singleton] at hi
      by_cases e : i = ys.length
      · rw [e]; exact hf
      · exact ht i (by omega)
    | false => exact iteF (hF _ H3 hlt hf p3)
  · have e : ys.length = n := by omega
    exact .inl ⟨by rw [e]; exact w.stops H q, hT H (e ▸ hp) fun i hi => ht i (by omega)⟩
end
def Tabs (cs : List (Addr × Addr)) (H : Hp) : Prop := ∀ p ∈ cs, GxR.TabG H p.2
theorem tab_ext {P : Addr} {H H' : Hp} (t : GxR.TabG H P) (x : GxR.Tabbed P H H') : LamX.ExtN H H' := fun b o e n => by
  by_cases hb : b = P
  · obtain ⟨ps, h1, _⟩ := t
    rw [hb, h1] at e
    cases e
    exact absurd rfl (n ps)
  · rw [x.2 b hb]; exact e
theorem tabs_tab {cs : List (Addr × Addr)} {P : Addr} {H H' : Hp} (t : Tabs cs H) (x : GxR.Tabbed P H H') : Tabs cs H' := fun p hp => by
  by_cases hb : p.2 = P
  · rw [hb]; exact x.1
  · obtain ⟨ps, h1, h2⟩ := t p hp
    exact ⟨ps, by rw [x.2 _ hb]; exact h1, h2⟩
/-- all but tables stays, the tables are tables -/
structure Ex (cs : List (Addr × Addr)) (H H' : Hp) : Prop where
  ext : LamX.ExtN H H'
  tab : Tabs cs H'
  old : ∀ b, H' b = none → H b = none
  oth : ∀ b o, H b = some o → (∀ p ∈ cs, p.2 ≠ b) → H' b = some o
theorem Ex.refl {cs : List (Addr × Addr)} {H : Hp} (t : Tabs cs H) : Ex cs H H := ⟨LamX.ExtN.refl H, t, fun _ h => h, fun _ _ e _ => e⟩
theorem Ex.trans {cs : List (Addr × Addr)} {H H1 H2 : Hp} (a : Ex cs H H1) (b : Ex cs H1 H2) : Ex cs H H2 := ⟨a.ext.trans b.ext, b.tab, fun c h => a.old c (b.old c h), fun c o e m => b.oth c o (a.oth c o e m) m⟩
theorem Ex.tabbed {cs : List (Addr × Addr)} {q : Addr × Addr} {H H' : Hp} (t : Tabs cs H) (m : q ∈ cs) (x : GxR.Tabbed q.2 H H') : Ex cs H H' := ⟨tab_ext (t q m) x, tabs_tab t x, fun b h => by
  by_cases hb : b = q.2
  · obtain ⟨ps, h1, _⟩ := x.1
    rw [hb, h1] at h
    cases h
  · rw [x.2 b hb] at h; exact h, fun b o e n => by
  rw [x.2 b (fun z => n q m z.symm)]
  exact e⟩
theorem upd_none {H : Hp} {a b : Addr} {o : HO} (h : upd H a o b = none) : H b = none ∧ b ≠ a := by
  by_cases hb : b = a
  · rw [hb, upd_same] at h; cases h
  · rw [upd_ne hb] at h; exact ⟨h, hb⟩
theorem Ex.laid {cs : List (Addr × Addr)} {H : Hp} {a : Addr} {o : HO} (t : Tabs cs H) (n : H a = none) : Ex cs H (upd H a o) :=
  ⟨fun b u e _ => by rw [upd_ne (ne_of_none e n)]; exact e, fun p hp => by
    obtain ⟨ps, h1, h2⟩ := t p hp
    exact ⟨ps, by rw [upd_ne (ne_of_none h1 n)]; exact h1, h2⟩, fun b h => (upd_none h).1, fun b u e _ => by
    rw [upd_ne (ne_of_none e n)]
    exact e⟩
/-- a new object, written again -/
theorem ex_new {cs : List (Addr × Addr)} {H H' : Hp} {D : Addr} {o : HO} (t : Tabs cs H) (e : Ex cs H H') (n : H D = none) : Ex cs H (upd H' D o) :=
  ⟨fun b u h m => by rw [upd_ne (ne_of_none h n)]; exact e.ext b u h m, fun p hp => by
    obtain ⟨ps, h1, _⟩ := t p hp
    obtain ⟨ps', h3, h4⟩ := e.tab p hp
    exact ⟨ps', by rw [upd_ne (ne_of_none h1 n)]; exact h3, h4⟩, fun b h => e.old b (upd_none h).1, fun b u h m => by
    rw [upd_ne (ne_of_none h n)]
    exact e.oth b u h m⟩
theorem Ex.lst {cs : List (Addr × Addr)} {H H' : Hp} {a : Addr} {xs : List V} (e : Ex cs H H') (h : H a = some (.lst xs)) : H' a = some (.lst xs) := e.ext _ _ h fun ps q => by cases q
theorem Ex.tup {cs : List (Addr × Addr)} {H H' : Hp} {a : Addr} {xs : List V} (e : Ex cs H H') (h : H a = some (.tup xs)) : H' a = some (.tup xs) := e.ext _ _ h fun ps q => by cases q
theorem Ex.sqL {cs : List (Addr × Addr)} {K : PySem.W.Frag} {H H' : Hp} {a : Addr} {xs : List V} (e : Ex cs H H') (h : SqL K H a xs) : SqL K H' a xs := by
  rcases h with (z | ⟨o, z⟩) | z
  · exact .inl (.inl (e.ext _ _ z fun ps q => by cases q))
  · exact .inl (.inr ⟨o, e.ext _ _ z fun ps q => by cases q⟩)
  · exact .inr z
theorem Ex.sqT {cs : List (Addr × Addr)} {K : PySem.W.Frag} {H H' : Hp} {a : Addr} {xs : List V} (e : Ex cs H H') (h : SqT K H a xs) : SqT K H' a xs := by
  rcases h with (z | ⟨o, z⟩) | z
  · exact .inl (.inl (e.ext _ _ z fun ps q => by cases q))
  · exact .inl (.inr ⟨o, e.ext _ _ z fun ps q => by cases q⟩)
  · exact .inr z
/-- a def whose code object is known -/
theorem fun_okT {P : Program} {w : World} {K : PySem.W.Frag} {mg : Str → Option Value} {base : Heap} {x qual : Str} {st : Stmt} {f c : Addr} {fd : FuncData} {N ps : List Str} {k : Nat} {sp : Sp} (F : Fun K x qual st f fd) (hc : fd.code = .ref c) (S : FnScope N ps (defScope st)) (len : ∀ vs H Q E, sp vs H Q E → vs.length = ps.length)
    (hbody : ∀ (A : Around) (outer : List Env) (s : Shared) (H : Hp) (vs : List V) (Q : VK) (E : XK), Room k (A.deeper (envOfC qual (defScope st) s.heap.objs.size f (.ref c))) → sp vs H Q E →
      ∃ t, PSs (cxOf CX0 P w K mg base N qual (defScope st) f (.ref c) A outer s H E).nox (defBody st) t ∧ t { nx := fun _ H' => Q .non H', rt := Q } (start N vs) H) : FnOk P w K mg base CX0 (k + 1) f fd ps sp := by
  obtain ⟨oc, od, kV, doc, pm, an, cdv, ct, osl, rfl, lk, hcd⟩ := F.ex
  have e : cdv = .ref c := hc
  subst e
  refine fn_of lk hcd S len fun A outer s H vs Q E hr hsp => ?_
  obtain ⟨t, h, q⟩ := hbody A outer s H vs Q E hr hsp
  exact ⟨t, h.nox, q⟩
end Gx
namespace TG
open PySem L2 Gx
def SgOk (c : Nat) : Prop := 32 ≤ c ∧ c ≤ 126 ∧ c ≠ 37
structure CellOk (z : Str) : Prop where
  len : z.length ≤ 10
  sg : ∀ c ∈ z.cps.toList, SgOk c
structure RowOk (r : List Str) : Prop where
  pos : 1 ≤ r.length
  len : r.length ≤ 6
  cells : ∀ z ∈ r, CellOk z
abbrev sV (r : List Str) : List V := r.map V.str
theorem line10 {n : Nat} (h : n ≤ 1000) : n ≤ sizeLine := Nat.le_trans h (by decide)
theorem dT {c : Prop} [Decidable c] (h : c) : V.bl (decide c) = V.bl true := by rw [decide_eq_true h]
theorem dF {c : Prop} [Decidable c] (h : ¬ c) : V.bl (decide c) = V.bl false := by rw [decide_eq_false h]
theorem qT {c : Prop} [Decidable c] {Q : VK} {H : Hp} (h : c) (k : Q (.bl true) H) : Q (.bl (decide c)) H := by rw [decide_eq_true h]; exact k
theorem qN {c : Prop} [Decidable c] {Q : VK} {H : Hp} (h : ¬ c) (k : Q (.bl true) H) : Q (.bl (!decide c)) H := by rw [decide_eq_false h]; exact k
structure Consts (mg : Str → Option Value) : Prop where
  blank : ∃ t, mg "BLANK" = some (.int 32 t)
  tilde : ∃ t, mg "TILDE" = some (.int 126 t)
  percent : ∃ t, mg "PERCENT" = some (.int 37 t)
  rows : ∃ t, mg "MOST_ROWS" = some (.int 30 t)
  cells : ∃ t, mg "MOST_CELLS" = some (.int 6 t)
  signs : ∃ t, mg "MOST_SIGNS" = some (.int 10 t)
  gap : ∃ t, mg "MOST_GAP" = some (.int 4 t)
  least : ∃ t, mg "MOST_LEAST" = some (.int 12 t)
section
variable {P : Program} {w : World} {K : PySem.W.Frag} {mg : Str → Option Value} {base : Heap}
def spWhole : Sp := fun vs H Q _ => ∃ (i lo hi : Int), vs = [.int i, .int lo, .int hi] ∧ lo ≤ i ∧ i ≤ hi ∧ Q (.bl true) H
theorem sc_whole : FnScope ["value", "low", "high"] ["value", "low", "high"] (defScope s_is_whole) := ⟨rfl, rfl, rfl, by decide +kernel, rfl, by decide +kernel, by decide +kernel⟩
theorem ok_whole {f : Addr} {fd : FuncData} (T : Txt mg) (F : Fun K "is_whole" "is_whole" s_is_whole f fd) : FnOk P w K mg base CX0 1 f fd ["value", "low", "high"] spWhole := by
  refine F.ok sc_whole (fun vs H Q E h => ?_) (fun cdv A outer s H vs Q E hr h => ?_)
  · obtain ⟨i, lo, hi, rfl, _⟩ := h
    rfl
  · obtain ⟨i, lo, hi, rfl, h1, h2, k⟩ := h
    refine ⟨_, pss_one (ps_ret (pe_and (pe_callB call_isi (by rfl) T.isin (by decide +kernel) (pa_cons (pv 0) (pa_cons (pe_bltn (v := .ty "int") (by rfl) T.int (by decide +kernel) rfl) pa_nil)))
      (pe_and (pe_not (pe_callB call_isi (by rfl) T.isin (by decide +kernel) (pa_cons (pv 0) (pa_cons (pe_bltn (v := .ty "bool") (by rfl) T.bool (by decide +kernel) rfl) pa_nil)))) (pe_one (pe_chain op_le op_le (pv 1) (pv 0) (pv 2)))))), ?_⟩
    exact ⟨_, rfl, _, _, _, _, true, rfl, .ty _, .base (.int i), kit_ty (by decide +kernel), true, rfl, iteT ⟨_, rfl, _, _, _, _, false, rfl, .ty _, .base (.int i), kit_ty (by decide +kernel), false, rfl, true, rfl, iteT
      ⟨_, rfl, _, rfl, lo, i, rfl, rfl, true, dT h1, iteT ⟨_, rfl, i, hi, rfl, rfl, qT h2 k⟩⟩⟩⟩
def spSg : Sp := fun vs H Q _ => ∃ c : Nat, vs = [.str ⟨#[c]⟩] ∧ SgOk c ∧ Q (.bl true) H
theorem sc_sg : FnScope ["sign"] ["sign"] (defScope s_is_sign) := ⟨rfl, rfl, rfl, by decide +kernel, rfl, by decide +kernel, by decide +kernel⟩
theorem ok_sg {f : Addr} {fd : FuncData} (T : Txt mg) (N : Consts mg) (F : Fun K "is_sign" "is_sign" s_is_sign f fd) : FnOk P w K mg base CX0 1 f fd ["sign"] spSg := by
  refine F.ok sc_sg (fun vs H Q E h => ?_) (fun cdv A outer s H vs Q E hr h => ?_)
  · obtain ⟨c, rfl, _⟩ := h
    rfl
  · obtain ⟨c, rfl, ⟨h1, h2, h3⟩, k⟩ := h
    obtain ⟨t1, e1⟩ := N.blank
    obtain ⟨t2, e2⟩ := N.tilde
    obtain ⟨t3, e3⟩ := N.percent
    refine ⟨_, pss_one (ps_ret (pe_and (pe_chain op_le op_le (pe_glob (v := .int 32) rfl e1 ⟨_, rfl⟩) (pe_callB call_ord (by rfl) T.ord (by decide +kernel) (pa_cons (pv 0) pa_nil)) (pe_glob (v := .int 126) rfl e2 ⟨_, rfl⟩))
      (pe_one (pe_cmpR op_ne (pe_callB call_ord (by rfl) T.ord (by decide +kernel) (pa_cons (pv 0) pa_nil)) (pe_glob (v := .int 37) rfl e3 ⟨_, rfl⟩) (nomark _))))), ?_⟩
    refine ⟨_, rfl, _, rfl, rfl, 32, (c : Int), rfl, rfl, true, dT (show (32 : Int) ≤ c by omega), iteT ⟨(c : Int), 126, rfl, rfl, ?_⟩⟩
    have e4 : V.bl (decide ((c : Int) ≤ 126)) = V.bl true := dT (by omega)
    refine ⟨true, e4, iteT ⟨_, rfl, _, rfl, rfl, rfl, qN (fun z => ?_) k⟩⟩
    injection z with z
    exact h3 (Int.ofNat.inj z)
def spText (cs : List (Addr × Addr)) : Sp := fun vs H Q _ => ∃ (z : Str) (m : Int), vs = [.str z, .int m] ∧ Tabs cs H ∧ (z.length : Int) ≤ m ∧ z.length ≤ 1000 ∧ (∀ c ∈ z.cps.toList, SgOk c) ∧ ∀ H', Ex cs H H' → Q (.bl true) H'
theorem sc_text : FnScope ["value", "most"] ["value", "most"] (defScope s_is_text) := ⟨rfl, rfl, rfl, by decide +kernel, rfl, by decide +kernel, by decide +kernel⟩
theorem ok_text {f c Pt g : Addr} {fd fdg : FuncData} {cs : List (Addr × Addr)} (T : Txt mg) (F : Fun K "is_text_of_signs" "is_text_of_signs" s_is_text f fd) (hc : fd.code = .ref c) (TB : GxR.TabB base mg c Pt) (hm : (c, Pt) ∈ cs)
    (G : FnOk P w K mg base CX0 1 g fdg ["sign"] spSg) (kp : PySem.W.keepIn K (.ref g) = true) (bd : Binds K fdg ["sign"] []) (mgg : mg "is_sign" = some (.ref g)) : FnOk P w K mg base CX0 5 f fd ["value", "most"] (spText cs) := by
  refine fun_okT F hc sc_text (fun vs H Q E h => ?_) (fun A outer s H vs Q E hr h => ?_)
  · obtain ⟨z, m, rfl, _⟩ := h
    rfl
  · obtain ⟨z, m, rfl, hT, h1, h2, h3, k⟩ := h
    refine ⟨_, pss_one (ps_ret (pe_and (pe_callB call_isi (by rfl) T.isin (by decide +kernel) (pa_cons (pv 0) (pa_cons (pe_bltn (v := .ty "str") (by rfl) T.str (by decide +kernel) rfl) pa_nil)))
      (pe_and (pe_cmpR op_le (pe_callB call_len_str (by rfl) T.len PySem.boot_len (pa_cons (pv 0) pa_nil)) (pv 1) (nomark _))
        (pe_one (pe_allG (k := 1) (P := Pt) hr (by rfl) T.all TB rfl ⟨rfl, rfl, by decide +kernel, by decide +kernel, rfl, rfl⟩ (pi_str (pv 0)) (fun A' code s4 H4 fp hr' => pe_call G hr' (by rfl) mgg kp bd .nil pass0 (pa_cons (pv 0) pa_nil)) (fun _ => rfl)))))), ?_⟩
    refine ⟨_, rfl, _, _, _, _, true, rfl, .ty _, .base (.str z), kit_ty (by decide +kernel), true, rfl, iteT ⟨_, rfl, z, rfl, line10 h2, _, rfl, _, _, rfl, rfl, true, dT h1, iteT ⟨_, rfl, z, rfl, hT _ hm, fun H2 hH2 => ?_⟩⟩⟩
    refine all_by (w := walk_str (z := z)) (fun _ => true) (fun _ H' => H' = H2) rfl (fun _ _ _ _ => trivial) (fun i v H3 H4 hi e y Z hZ => ?_) (fun H3 e _ => ?_) (fun i H3 _ e _ => by cases e)
    · obtain ⟨rfl, c, hc, rfl⟩ := y
      subst e
      refine ⟨_, rfl, c, rfl, h3 c ?_, hZ _ rfl⟩
      exact List.mem_of_getElem? (by rw [Array.getElem?_toList]; exact hc)
    · subst e
      exact k _ (Ex.tabbed hT hm hH2)
end
end TG
namespace TG
open PySem L2 Gx
/-- a page: its rows' tuples at as -/
structure PageAt (K : PySem.W.Frag) (H : Hp) (a : Addr) (as : List Addr) (rows : List (List Str)) : Prop where
  lst : SqL K H a (as.map V.ref)
  len : as.length = rows.length
  row : ∀ (i : Nat) (p : Addr) (r : List Str), as[i]? = some p → rows[i]? = some r → SqT K H p (sV r)
structure PgOk (rows : List (List Str)) : Prop where
  pos : 1 ≤ rows.length
  len : rows.length ≤ 30
  rows : ∀ r ∈ rows, RowOk r
theorem PageAt.ex {K : PySem.W.Frag} {cs : List (Addr × Addr)} {H H' : Hp} {a : Addr} {as : List Addr} {rows : List (List Str)} (p : PageAt K H a as rows) (e : Ex cs H H') : PageAt K H' a as rows :=
  ⟨e.sqL p.lst, p.len, fun i q r h1 h2 => e.sqT (p.row i q r h1 h2)⟩
theorem get_map {α β : Type} {f : α → β} {xs : List α} {i : Nat} {y : β} (h : (xs.map f)[i]? = some y) : ∃ x, xs[i]? = some x ∧ y = f x := by
  rw [List.getElem?_map] at h
  cases e : xs[i]? with
  | none => rw [e] at h; cases h
  | some x => rw [e] at h; cases h; exact ⟨x, rfl, rfl⟩
theorem getP {α : Type} {xs : List α} {i : Nat} (h : i < xs.length) : ∃ x, xs[i]? = some x := ⟨xs[i], List.getElem?_eq_getElem h⟩
section
variable {P : Program} {w : World} {K : PySem.W.Frag} {mg : Str → Option Value} {base : Heap} {cs : List (Addr × Addr)}
def spRow (K : PySem.W.Frag) (cs : List (Addr × Addr)) : Sp := fun vs H Q _ => ∃ (a : Addr) (r : List Str), vs = [.ref a] ∧ Tabs cs H ∧ SqT K H a (sV r) ∧ RowOk r ∧ ∀ H', Ex cs H H' → Q (.bl true) H'
theorem sc_row : FnScope ["value"] ["value"] (defScope s_is_row) := ⟨rfl, rfl, rfl, by decide +kernel, rfl, by decide +kernel, by decide +kernel⟩
theorem ok_isrow {f c Pt g : Addr} {fd fdg : FuncData} (T : Txt mg) (N : Consts mg) (F : Fun K "is_row" "is_row" s_is_row f fd) (hc : fd.code = .ref c) (TB : GxR.TabB base mg c Pt) (hm : (c, Pt) ∈ cs)
    (G : FnOk P w K mg base CX0 5 g fdg ["value", "most"] (spText cs)) (kp : PySem.W.keepIn K (.ref g) = true) (bd : Binds K fdg ["value", "most"] []) (mgg : mg "is_text_of_signs" = some (.ref g)) : FnOk P w K mg base CX0 9 f fd ["value"] (spRow K cs) := by
  refine fun_okT F hc sc_row (fun vs H Q E h => ?_) (fun A outer s H vs Q E hr h => ?_)
  · obtain ⟨a, r, rfl, _⟩ := h
    rfl
  · obtain ⟨a, r, rfl, hT, hS, ⟨p1, p2, p3⟩, k⟩ := h
    obtain ⟨t1, e1⟩ := N.cells
    obtain ⟨t2, e2⟩ := N.signs
    refine ⟨_, pss_cons (ps_if (PW.pt (pw_or (pt_not (pt_val (pe_callB call_isi (by rfl) T.isin (by decide +kernel) (pa_cons (pv 0) (pa_cons (pe_bltn (v := .ty "tuple") (by rfl) T.tuple (by decide +kernel) rfl) pa_nil)))))
        (pw_or1 (pt_not (pt_chain op_le op_le pe_int (pe_callB call_len_seq (by rfl) T.len PySem.boot_len (pa_cons (pv 0) pa_nil)) (pe_glob (v := .int 6) rfl e1 ⟨_, rfl⟩)))))) (pss_one (ps_ret pe_bl)) pss_nil)
      (pss_one (ps_ret (pe_allG (k := 5) (P := Pt) hr (by rfl) T.all TB rfl ⟨rfl, rfl, by decide +kernel, by decide +kernel, rfl, rfl⟩ (pi_tup (pv 0))
        (fun A' code s4 H4 fp hr' => pe_call G hr' (by rfl) mgg kp bd .nil pass0 (pa_cons (pv 0) (pa_cons (pe_glob (v := .int 10) rfl e2 ⟨_, rfl⟩) pa_nil))) (fun _ => rfl)))), ?_⟩
    have hl : (sV r).length = r.length := List.length_map ..
    refine ⟨_, rfl, _, _, _, _, true, rfl, .ty _, ty_tup hS, kit_ty (by decide +kernel), true, rfl, iteF ⟨_, rfl, a, _, rfl, .inr hS, 1, _, rfl, rfl, true, dT (by omega), iteT ⟨_, 6, rfl, rfl, true, dT (by omega), iteF ?_⟩⟩⟩
    refine ⟨_, rfl, a, rfl, ⟨_, hS⟩, hT _ hm, fun H2 hH2 => ?_⟩
    have x2 := Ex.tabbed hT hm hH2
    refine all_by (w := walk_tup (a := a) (xs := sV r)) (fun _ => true) (fun _ H' => Ex cs H H') x2 (fun i H' _ x => x.sqT hS) (fun i v H3 H4 hi x y Z hZ => ?_) (fun H3 x _ => k _ x) (fun i H3 _ e _ => by cases e)
    obtain ⟨rfl, hv⟩ := y
    obtain ⟨z, hz, rfl⟩ := get_map hv
    obtain ⟨c1, c2⟩ := p3 z (List.mem_of_getElem? hz)
    exact ⟨_, rfl, z, 10, rfl, x.tab, by omega, by omega, c2, fun H5 x5 => hZ _ (x.trans x5)⟩
def spCheck (K : PySem.W.Frag) (cs : List (Addr × Addr)) : Sp := fun vs H Q _ => ∃ (a : Addr) (as : List Addr) (rows : List (List Str)), vs = [.ref a] ∧ Tabs cs H ∧ PageAt K H a as rows ∧ PgOk rows ∧ ∀ H', Ex cs H H' → Q .non H'
theorem sc_misfit : FnScope ["rows", "number", "row"] ["rows"] (defScope s_misfit) := ⟨rfl, rfl, rfl, by decide +kernel, rfl, by decide +kernel, by decide +kernel⟩
theorem ok_misfit {f g : Addr} {fd fdg : FuncData} (T : Txt mg) (N : Consts mg) (F : Fun K "first_misfit" "first_misfit" s_misfit f fd)
    (G : FnOk P w K mg base CX0 9 g fdg ["value"] (spRow K cs)) (kp : PySem.W.keepIn K (.ref g) = true) (bd : Binds K fdg ["value"] []) (mgg : mg "is_row" = some (.ref g)) : FnOk P w K mg base CX0 10 f fd ["rows"] (spCheck K cs) := by
  refine F.ok sc_misfit (fun vs H Q E h => ?_) (fun cdv A outer s H vs Q E hr h => ?_)
  · obtain ⟨a, as, rows, rfl, _⟩ := h
    rfl
  · obtain ⟨a, as, rows, rfl, hT, hP, hO, k⟩ := h
    have nd := sc_misfit.nd
    obtain ⟨t1, e1⟩ := N.rows
    refine ⟨_, pss_cons (ps_for PassesOwn.never rfl (pi_enum (by rfl) T.enum (pa_cons (pv 0) pa_nil)) (pg_tup rfl (pgs_cons (pg_name (i := 1) nd rfl (.inl rfl)) (pgs_cons (pg_name (i := 2) nd rfl (.inl rfl)) pgs_nil)))
        (pss_one (ps_if (PW.pt (pw_or (pt_cmpR op_eq (pv 1) (pe_glob (v := .int 30) rfl e1 ⟨_, rfl⟩) (nomark _)) (pw_or1 (pt_not (pt_val (pe_call G hr (by rfl) mgg kp bd .nil pass0 (pa_cons (pv 2) pa_nil))))))) (pss_one ps_never) pss_nil)))
      (pss_one (ps_ret pe_non)), ?_⟩
    have hl : (as.map V.ref).length = rows.length := by rw [List.length_map]; exact hP.len
    have := hO.pos
    have := hO.len
    refine ⟨_, rfl, a, _, rfl, hP.lst, for_it (walk_enum (xs := as.map V.ref)) (fun _ σ H' => Ex cs H H' ∧ σ[0]? = some (some (.ref a)) ∧ σ.length = 3) ⟨Ex.refl hT, rfl, rfl⟩ (fun i σ H' _ x => x.1.sqL hP.lst) ?_ ?_⟩
    · rintro i x σ H3 H4 hi ⟨x3, s0, sl⟩ ⟨Tp, v, u, rfl, hn, rfl, hv, hu⟩
      cases hv
      obtain ⟨p, hp, rfl⟩ := get_map hu
      have hi2 : i < rows.length := by omega
      obtain ⟨r, hr2⟩ := getP hi2
      have xl := Ex.laid (o := .tup [.int (i : Nat), .ref p]) x3.tab hn
      refine ⟨Tp, _, rfl, .inl (.inl upd_same), rfl, _, _, rfl, _, _, rfl, rfl, ?_⟩
      have g1 : ((σ.set 1 (some (V.int (i : Nat)))).set 2 (some (V.ref p)))[1]? = some (some (V.int (i : Nat))) := by
        rw [List.getElem?_set_ne (by decide)]
        exact List.getElem?_set_self (by omega)
      have g2 : ((σ.set 1 (some (V.int (i : Nat)))).set 2 (some (V.ref p)))[2]? = some (some (V.ref p)) := List.getElem?_set_self (by rw [List.length_set]; omega)
      refine ⟨_, g1, rfl, false, dF (fun z => by injection z with z; omega), iteF ⟨_, g2, p, r, rfl, xl.tab, (x3.trans xl).sqT (hP.row i p r hp hr2), hO.rows r (List.mem_of_getElem? hr2), fun H5 x5 => ⟨true, rfl, iteF ⟨(x3.trans xl).trans x5, ?_, ?_⟩⟩⟩⟩
      · rw [List.getElem?_set_ne (by decide), List.getElem?_set_ne (by decide)]; exact s0
      · rw [List.length_set, List.length_set]; exact sl
    · rintro σ H' ⟨x, _⟩
      exact k H' x
theorem sc_check : FnScope ["page", "number"] ["page"] (defScope s_check_page) := ⟨rfl, rfl, rfl, by decide +kernel, rfl, by decide +kernel, by decide +kernel⟩
theorem ok_check {f g : Addr} {fd fdg : FuncData} (T : Txt mg) (F : Fun K "check_page" "check_page" s_check_page f fd)
    (G : FnOk P w K mg base CX0 10 g fdg ["rows"] (spCheck K cs)) (kp : PySem.W.keepIn K (.ref g) = true) (bd : Binds K fdg ["rows"] []) (mgg : mg "first_misfit" = some (.ref g)) : FnOk P w K mg base CX0 11 f fd ["page"] (spCheck K cs) := by
  refine F.ok sc_check (fun vs H Q E h => ?_) (fun cdv A outer s H vs Q E hr h => ?_)
  · obtain ⟨a, as, rows, rfl, _⟩ := h
    rfl
  · obtain ⟨a, as, rows, rfl, hT, hP, hO, k⟩ := h
    have nd := sc_check.nd
    refine ⟨_, pss_cons (ps_if (PW.pt (pw_or (pt_not (pt_val (pe_callB call_isi (by rfl) T.isin (by decide +kernel) (pa_cons (pv 0) (pa_cons (pe_bltn (v := .ty "list") (by rfl) T.list (by decide +kernel) rfl) pa_nil)))))
        (pw_or1 (pt_cmpR op_eq (pe_callB call_len_seq (by rfl) T.len PySem.boot_len (pa_cons (pv 0) pa_nil)) pe_int (nomark _))))) (pss_one ps_never) pss_nil)
      (pss_cons (ps_set (i := 1) nd rfl (.inl rfl) (pe_call G hr (by rfl) mgg kp bd .nil pass0 (pa_cons (pv 0) pa_nil)))
      (pss_one (ps_if (pt_cmpR op_notN (pv 1) pe_non (nomark _)) (pss_one ps_never) pss_nil))), ?_⟩
    have hl : (as.map V.ref).length = rows.length := by rw [List.length_map]; exact hP.len
    have := hO.pos
    have := hO.len
    refine ⟨_, rfl, _, _, _, _, true, rfl, .ty _, ty_list hP.lst, kit_ty (by decide +kernel), true, rfl, iteF ⟨_, rfl, a, _, rfl, .inl hP.lst, rfl, false, dF (fun z => by injection z with z; omega), iteF ?_⟩⟩
    exact ⟨_, rfl, a, as, rows, rfl, hT, hP, hO, fun H' x => ⟨_, rfl, rfl, false, rfl, iteF (k H' x)⟩⟩
structure StyleAt (K : PySem.W.Frag) (H : Hp) (a : Addr) (gap least : Int) : Prop where
  tup : SqT K H a [.int gap, .int least]
  g0 : 0 ≤ gap
  g1 : gap ≤ 4
  l0 : 0 ≤ least
  l1 : least ≤ 12
def spStyle (K : PySem.W.Frag) : Sp := fun vs H Q _ => ∃ (a : Addr) (gap least : Int), vs = [.ref a] ∧ StyleAt K H a gap least ∧ Q .non H
theorem sc_style : FnScope ["style", "gap", "least"] ["style"] (defScope s_check_style) := ⟨rfl, rfl, rfl, by decide +kernel, rfl, by decide +kernel, by decide +kernel⟩
theorem ok_cstyle {f g : Addr} {fd fdg : FuncData} (T : Txt mg) (N : Consts mg) (F : Fun K "check_style" "check_style" s_check_style f fd)
    (G : FnOk P w K mg base CX0 1 g fdg ["value", "low", "high"] spWhole) (kp : PySem.W.keepIn K (.ref g) = true) (bd : Binds K fdg ["value", "low", "high"] []) (mgg : mg "is_whole" = some (.ref g)) : FnOk P w K mg base CX0 2 f fd ["style"] (spStyle K) := by
  refine F.ok sc_style (fun vs H Q E h => ?_) (fun cdv A outer s H vs Q E hr h => ?_)
  · obtain ⟨a, gap, least, rfl, _⟩ := h
    rfl
  · obtain ⟨a, gap, least, rfl, ⟨hS, g0, g1, l0, l1⟩, k⟩ := h
    have nd := sc_style.nd
    obtain ⟨t1, e1⟩ := N.gap
    obtain ⟨t2, e2⟩ := N.least
    refine ⟨_, pss_cons (ps_if (PW.pt (pw_or (pt_not (pt_val (pe_callB call_isi (by rfl) T.isin (by decide +kernel) (pa_cons (pv 0) (pa_cons (pe_bltn (v := .ty "tuple") (by rfl) T.tuple (by decide +kernel) rfl) pa_nil)))))
        (pw_or1 (pt_cmpR op_ne (pe_callB call_len_seq (by rfl) T.len PySem.boot_len (pa_cons (pv 0) pa_nil)) pe_int (nomark _))))) (pss_one ps_never) pss_nil)
      (pss_cons (ps_asg (pv 0) (pg_tup rfl (pgs_cons (pg_name (i := 1) nd rfl (.inl rfl)) (pgs_cons (pg_name (i := 2) nd rfl (.inl rfl)) pgs_nil))))
      (pss_one (ps_if (PW.pt (pw_or (pt_not (pt_val (pe_call G hr (by rfl) mgg kp bd .nil pass0 (pa_cons (pv 1) (pa_cons pe_int (pa_cons (pe_glob (v := .int 4) rfl e1 ⟨_, rfl⟩) pa_nil))))))
        (pw_or1 (pt_not (pt_val (pe_call G hr (by rfl) mgg kp bd .nil pass0 (pa_cons (pv 2) (pa_cons pe_int (pa_cons (pe_glob (v := .int 12) rfl e2 ⟨_, rfl⟩) pa_nil))))))))) (pss_one ps_never) pss_nil))), ?_⟩
    refine ⟨_, rfl, _, _, _, _, true, rfl, .ty _, ty_tup hS, kit_ty (by decide +kernel), true, rfl, iteF ⟨_, rfl, a, _, rfl, .inr hS, rfl, false, rfl, iteF ?_⟩⟩
    exact ⟨_, rfl, a, _, rfl, hS, rfl, _, _, rfl, _, _, rfl, rfl, _, rfl, gap, 0, 4, rfl, g0, g1, true, rfl, iteF ⟨_, rfl, least, 0, 12, rfl, l0, l1, true, rfl, iteF k⟩⟩
end
end TG
namespace TG
open PySem L2 Gx
abbrev cl (z : Str) : List Nat := z.cps.toList
def restL (l : List Nat) : List Nat := if l.head? = some 45 then l.tail else l
def figB (z : Str) : Bool := decide (restL (cl z) ≠ []) && (restL (cl z)).all fun c => decide (48 ≤ c ∧ c ≤ 57)
section
variable {P : Program} {w : World} {K : PySem.W.Frag} {mg : Str → Option Value} {base : Heap} {cs : List (Addr × Addr)}
end
end TG
namespace TG
open PySem L2 Gx
def fillB (zs : List Str) : List Str := zs.filter fun z => decide (cl z ≠ [])
def rightB (zs : List Str) : Bool := decide (fillB zs ≠ []) && (fillB zs).all figB
section
variable {P : Program} {w : World} {K : PySem.W.Frag} {mg : Str → Option Value} {base : Heap} {cs : List (Addr × Addr)}
end
end TG
namespace TG
open PySem L2 Gx
def clB (rows : List (List Str)) (c i : Nat) : Bool := match rows[i]? with
  | some r => decide (c + 1 < r.length)
  | none => false
def hiB (rows : List (List Str)) (c i : Nat) : Nat := i + ((rows.drop i).takeWhile fun r => decide (c + 1 < r.length)).length
/-- pairs of numbers at ts -/
structure PairsAt (H : Hp) (ts : List Addr) (ps : List (Nat × Nat)) : Prop where
  len : ts.length = ps.length
  at_ : ∀ (i : Nat) (t : Addr) (p : Nat × Nat), ts[i]? = some t → ps[i]? = some p → H t = some (.tup [.int (p.1 : Nat), .int (p.2 : Nat)])
theorem PairsAt.keep {H H' : Hp} {ts : List Addr} {ps : List (Nat × Nat)} (h : PairsAt H ts ps) (k : ∀ b xs, H b = some (.tup xs) → H' b = some (.tup xs)) : PairsAt H' ts ps := ⟨h.len, fun i t p h1 h2 => k _ _ (h.at_ i t p h1 h2)⟩
section
variable {P : Program} {w : World} {K : PySem.W.Frag} {mg : Str → Option Value} {base : Heap} {cs : List (Addr × Addr)}
end
end TG
namespace TG
open PySem L2 Gx
abbrev nilS : Str := ⟨#[]⟩
def cellsB (rows : List (List Str)) (c b e : Nat) : List Str := ((rows.drop b).take (e - b)).map fun r => r.getD c nilS
def longB : List Str → Nat
  | [] => 0
  | z :: zs => max z.length (longB zs)
def widthB (zs : List Str) (gap least : Int) : Int := if least > (longB zs : Int) + gap then least else (longB zs : Int) + gap
def holdB (zs : List Str) (b : Nat) (gap least : Int) : List Int := if least < (longB zs : Int) + gap then ((List.range zs.length).filter fun i => decide ((zs.getD i nilS).length = longB zs)).map fun i => ((b + i : Nat) : Int) else []
section
variable {P : Program} {w : World} {K : PySem.W.Frag} {mg : Str → Option Value} {base : Heap} {cs : List (Addr × Addr)}
/-- the told tuple at t, its holders at h -/
def DescAt (H : Hp) (t h : Addr) (c b e : Nat) (zs : List Str) (gap least : Int) : Prop :=
  H t = some (.tup [.int (c : Nat), .int (b : Nat), .int (e : Nat), .int (widthB zs gap least), .bl (rightB zs), .ref h]) ∧ H h = some (.lst ((holdB zs b gap least).map V.int))
end
end TG
namespace TG
open PySem L2 Gx
/-- the told tuples at ts, their holders at hs -/
structure DescsAt (H : Hp) (ts hs : List Addr) (es : List (Nat × Nat × Nat)) (rows : List (List Str)) (gap least : Int) : Prop where
  len : ts.length = es.length
  len2 : hs.length = es.length
  at_ : ∀ (i : Nat) (t h : Addr) (q : Nat × Nat × Nat), ts[i]? = some t → hs[i]? = some h → es[i]? = some q → DescAt H t h q.1 q.2.1 q.2.2 (cellsB rows q.1 q.2.1 q.2.2) gap least
theorem DescsAt.keep {H H' : Hp} {ts hs : List Addr} {es : List (Nat × Nat × Nat)} {rows : List (List Str)} {gap least : Int} (x : DescsAt H ts hs es rows gap least) (k : ∀ b o, H b = some o → (b ∈ ts ∨ b ∈ hs) → (∀ ps, o ≠ .tbl ps) → H' b = some o) : DescsAt H' ts hs es rows gap least :=
  ⟨x.len, x.len2, fun i t h q h1 h2 h3 => ⟨k _ _ (x.at_ i t h q h1 h2 h3).1 (.inl (List.mem_of_getElem? h1)) (fun ps z => by cases z), k _ _ (x.at_ i t h q h1 h2 h3).2 (.inr (List.mem_of_getElem? h2)) (fun ps z => by cases z)⟩⟩
theorem StyleAt.ex {K : PySem.W.Frag} {cs : List (Addr × Addr)} {H H' : Hp} {a : Addr} {gap least : Int} (p : StyleAt K H a gap least) (e : Ex cs H H') : StyleAt K H' a gap least := ⟨e.sqT p.tup, p.g0, p.g1, p.l0, p.l1⟩
section
variable {P : Program} {w : World} {K : PySem.W.Frag} {mg : Str → Option Value} {base : Heap} {cs : List (Addr × Addr)}
end
end TG
namespace TG
open PySem L2 Gx
theorem joinL_nil : ∀ l : List (List Nat), TL.joinL [] l = l.flatten
  | [] => rfl
  | [p] => by simp [TL.joinL]
  | p :: q :: r => by
    show p ++ ([] ++ TL.joinL [] (q :: r)) = _
    rw [joinL_nil (q :: r)]
    rfl
theorem cl_join (ys : List Str) : cl (Txt.join "" ys) = (ys.map cl).flatten := by
  have e : ("" : Str) = SX.S [] := by decide +kernel
  have e2 : ys = (ys.map cl).map SX.S := by
    rw [List.map_map]
    conv => lhs; rw [← List.map_id ys]
    exact List.map_congr_left fun y _ => (SX.S_tl y).symm
  rw [e]
  conv => lhs; rw [e2]
  rw [SX.join_S, joinL_nil]
instance (c : Nat) : Decidable (SgOk c) := inferInstanceAs (Decidable (32 ≤ c ∧ c ≤ 126 ∧ c ≠ 37))
theorem sg_of {z : Str} (h : (z.cps.toList.all fun c => decide (SgOk c)) = true) : ∀ c ∈ cl z, SgOk c := fun c hc => of_decide_eq_true (List.all_eq_true.mp h c hc)
end TG
namespace TG
open PySem L2 Gx
abbrev everyS : Str := " !\"#$&'()*+,-./0123456789:;<=>?@ABCDEFGHIJKLMNOPQRSTUVWXYZ[\\]^_`abcdefghijklmnopqrstuvwxyz{|}~"
theorem every_ok : ∀ c ∈ cl everyS, SgOk c := sg_of (by decide +kernel)
theorem every_len : (cl everyS).length = 94 := by decide +kernel
/-- one of a written list -/
theorem pick {α : Type} {xs : List α} {i : Int} (h0 : 0 ≤ i) (h1 : i < xs.length) : ∃ x, x ∈ xs ∧ atI xs i = some x := by
  obtain ⟨n, rfl⟩ := Int.eq_ofNat_of_zero_le h0
  have hn : n < xs.length := by have : ((n : Nat) : Int) < xs.length := h1; omega
  exact ⟨xs[n], List.getElem_mem hn, atI_nat (List.getElem?_eq_getElem hn)⟩
theorem len_cl (z : Str) : z.length = (cl z).length := by simp [Str.length, cl]
theorem box_new {H : Hp} {b l p : Addr} {o : HO} (x : BoxAt H b l) (n : H p = none) : BoxAt (upd H p o) b l := by
  obtain ⟨ns, st, h1, h2, h3⟩ := x
  exact ⟨ns, st, by rw [upd_ne (ne_of_none h1 n)]; exact h1, by rw [upd_ne (ne_of_none h2 n)]; exact h2, h3⟩
theorem new_ne {H : Hp} {b l p : Addr} (x : BoxAt H b l) (n : H p = none) : p ≠ b ∧ p ≠ l := by
  obtain ⟨ns, st, h1, h2, h3⟩ := x
  exact ⟨(ne_of_none h1 n).symm, (ne_of_none h2 n).symm⟩
theorem box_upd {H : Hp} {b l p : Addr} {o : HO} (x : BoxAt H b l) (h1 : p ≠ b) (h2 : p ≠ l) : BoxAt (upd H p o) b l := by
  obtain ⟨ns, st, g1, g2, g3⟩ := x
  exact ⟨ns, st, by rw [upd_ne h1.symm]; exact g1, by rw [upd_ne h2.symm]; exact g2, g3⟩
theorem kb_new {H : Hp} {b l p : Addr} {o : HO} (n : H p = none) : KB b l H (upd H p o) := fun c u e _ _ => by rw [upd_ne (ne_of_none e n)]; exact e
theorem kb_upd {H H' : Hp} {b l p : Addr} {o : HO} (x : KB b l H H') (n : H p = none) : KB b l H (upd H' p o) := fun c u e h1 h2 => by rw [upd_ne (ne_of_none e n)]; exact x c u e h1 h2
theorem atI_map {α β : Type} {f : α → β} {xs : List α} {i : Int} {x : α} (h : atI xs i = some x) : atI (xs.map f) i = some (f x) := by
  unfold atI at h ⊢
  rw [List.length_map]
  cases e : ixN xs.length i with
  | none => rw [e] at h; cases h
  | some j =>
    rw [e] at h
    have h' : xs[j]? = some x := h
    show (xs.map f)[j]? = some (f x)
    rw [List.getElem?_map, h']
    rfl
/-- a list of single signs at D -/
structure OnesAt (b l : Addr) (H : Hp) (D : Addr) (i : Nat) (H' : Hp) : Prop where
  box : BoxAt H' b l
  keep : KB b l H H'
  nD : H D = none
  db : D ≠ b
  dl : D ≠ l
  ones : ∃ cs : List Nat, cs.length = i ∧ (∀ c ∈ cs, SgOk c) ∧ H' D = some (.lst (sV (cs.map fun c => ⟨#[c]⟩)))
theorem OnesAt.start {b l : Addr} {H H1 : Hp} {D : Addr} (hB : BoxAt H1 b l) (x : KB b l H H1) (n : H1 D = none) (nb : BoxAt H b l) : OnesAt b l H D 0 (upd H1 D (.lst [])) := by
  obtain ⟨d1, d2⟩ := new_ne hB n
  have nD : H D = none := by
    cases e : H D with
    | none => rfl
    | some o => rw [x D o e d1 d2] at n; cases n
  exact ⟨box_new hB n, kb_upd x nD, nD, d1, d2, [], rfl, fun c h => by simp at h, upd_same⟩
theorem OnesAt.more {b l : Addr} {H H1 H2 : Hp} {D : Addr} {i c : Nat} (o : OnesAt b l H D i H1) (hc : SgOk c) (hB : BoxAt H2 b l) (x : KB b l H1 H2) :
    ∃ acc, H2 D = some (.lst acc) ∧ acc.length = i ∧ OnesAt b l H D (i + 1) (upd H2 D (.lst (acc ++ [.str ⟨#[c]⟩]))) := by
  obtain ⟨cs, h1, h2, h3⟩ := o.ones
  refine ⟨_, x D _ h3 o.db o.dl, by rw [List.length_map, List.length_map, h1], box_upd hB o.db o.dl, kb_upd (o.keep.trans x) o.nD, o.nD, o.db, o.dl, cs ++ [c], by rw [List.length_append, h1]; rfl, fun d hd => ?_, ?_⟩
  · rcases List.mem_append.mp hd with h | h
    · exact h2 d h
    · rw [List.mem_singleton.mp h]; exact hc
  · rw [upd_same]
    simp [sV]
theorem OnesAt.done {b l : Addr} {H H1 : Hp} {D : Addr} {i : Nat} (o : OnesAt b l H D i H1) : ∃ ys : List Str, H1 D = some (.lst (ys.map V.str)) ∧ ys.length = i ∧ (ys.map fun y => y.length).sum = i ∧ (i ≤ 10 → CellOk (Txt.join "" ys)) := by
  obtain ⟨cs, h1, h2, h3⟩ := o.ones
  refine ⟨_, h3, by rw [List.length_map, h1], ?_, fun hi => ?_⟩
  · rw [← h1]
    clear h1 h2 h3
    induction cs with
    | nil => rfl
    | cons c cs ih =>
      rw [List.map_cons, List.map_cons, List.sum_cons, ih, List.length_cons]
      show 1 + cs.length = cs.length + 1
      omega
  · have e : cl (Txt.join "" (cs.map fun c => (⟨#[c]⟩ : Str))) = cs := by
      rw [cl_join, List.map_map]
      clear h1 h2 h3
      induction cs with
      | nil => rfl
      | cons c cs ih =>
        rw [List.map_cons, List.flatten_cons, ih]
        rfl
    exact ⟨by rw [len_cl, e, h1]; exact hi, fun c hc => h2 c (by have hc : c ∈ cl _ := hc; rw [e] at hc; exact hc)⟩
section
variable {P : Program} {w : World} {K : PySem.W.Frag} {mg : Str → Option Value} {base : Heap} {cs : List (Addr × Addr)}
def spSign : Sp := fun vs H Q _ => ∃ (b l : Addr), vs = [.ref b] ∧ BoxAt H b l ∧ ∀ (c : Nat) (H' : Hp), SgOk c → BoxAt H' b l → KB b l H H' → Q (.str ⟨#[c]⟩) H'
theorem sc_sign : FnScope ["_law_box", "_law_every"] ["_law_box"] (defScope s_sign) := ⟨rfl, rfl, rfl, by decide +kernel, rfl, by decide +kernel, by decide +kernel⟩
theorem ok_sign {f g : Addr} {fd fdg : FuncData} (F : Fun K "_law_sign" "_law_sign" s_sign f fd)
    (G : FnOk P w K mg base CX0 1 g fdg ["_law_box", "_law_many"] spTake) (kp : PySem.W.keepIn K (.ref g) = true) (bd : Binds K fdg ["_law_box", "_law_many"] []) (mgg : mg "_law_take" = some (.ref g)) : FnOk P w K mg base CX0 2 f fd ["_law_box"] spSign := by
  refine F.ok sc_sign (fun vs H Q E h => ?_) (fun cdv A outer s H vs Q E hr h => ?_)
  · obtain ⟨b, l, rfl, _⟩ := h
    rfl
  · obtain ⟨b, l, rfl, hB, k⟩ := h
    have nd := sc_sign.nd
    refine ⟨_, pss_cons (ps_set (i := 1) nd rfl (.inl rfl) pe_str) (pss_one (ps_ret (pe_ix ix_str (pv 1) (pe_call G hr (by rfl) mgg kp bd .nil pass0 (pa_cons (pv 0) (pa_cons pe_int pa_nil))) (fun _ _ => rfl)))), ?_⟩
    refine ⟨_, rfl, _, rfl, b, l, 94, rfl, hB, by decide, by decide, fun r H1 r0 r1 hB1 x1 => ?_⟩
    obtain ⟨c, hc, e⟩ := pick (xs := cl everyS) r0 (by rw [every_len]; exact r1)
    exact ⟨everyS, r, c, rfl, rfl, line10 (by decide +kernel), e, k c H1 (every_ok c hc) hB1 x1⟩
end
end TG
namespace TG
open PySem L2 Gx
theorem new_old {b l p : Addr} {H H1 : Hp} (x : KB b l H H1) (hB : BoxAt H1 b l) (n : H1 p = none) : H p = none := by
  obtain ⟨d1, d2⟩ := new_ne hB n
  cases e : H p with
  | none => rfl
  | some o => rw [x p o e d1 d2] at n; cases n
/-- a list of cells at D -/
structure StrsAt (b l : Addr) (H : Hp) (D : Addr) (i : Nat) (H' : Hp) : Prop where
  box : BoxAt H' b l
  keep : KB b l H H'
  nD : H D = none
  db : D ≠ b
  dl : D ≠ l
  zsat : ∃ zs : List Str, zs.length = i ∧ (∀ z ∈ zs, CellOk z) ∧ H' D = some (.lst (sV zs))
theorem StrsAt.start {b l : Addr} {H H1 : Hp} {D : Addr} (hB : BoxAt H1 b l) (x : KB b l H H1) (n : H1 D = none) : StrsAt b l H D 0 (upd H1 D (.lst [])) := by
  obtain ⟨d1, d2⟩ := new_ne hB n
  have nD := new_old x hB n
  exact ⟨box_new hB n, kb_upd x nD, nD, d1, d2, [], rfl, fun c h => by simp at h, upd_same⟩
theorem StrsAt.more {b l : Addr} {H H1 H2 : Hp} {D : Addr} {i : Nat} {z : Str} (o : StrsAt b l H D i H1) (hc : CellOk z) (hB : BoxAt H2 b l) (x : KB b l H1 H2) :
    ∃ acc, H2 D = some (.lst acc) ∧ acc.length = i ∧ StrsAt b l H D (i + 1) (upd H2 D (.lst (acc ++ [.str z]))) := by
  obtain ⟨zs, h1, h2, h3⟩ := o.zsat
  refine ⟨_, x D _ h3 o.db o.dl, by rw [List.length_map, h1], box_upd hB o.db o.dl, kb_upd (o.keep.trans x) o.nD, o.nD, o.db, o.dl, zs ++ [z], by rw [List.length_append, h1]; rfl, fun d hd => ?_, ?_⟩
  · rcases List.mem_append.mp hd with h | h
    · exact h2 d h
    · rw [List.mem_singleton.mp h]; exact hc
  · rw [upd_same]
    simp [sV]
/-- a list of numbers at D, below m -/
structure IntsAt (b l : Addr) (H : Hp) (D : Addr) (i : Nat) (H' : Hp) : Prop where
  box : BoxAt H' b l
  keep : KB b l H H'
  nD : H D = none
  db : D ≠ b
  dl : D ≠ l
  isat : ∃ zs : List Int, zs.length = i ∧ H' D = some (.lst (zs.map V.int))
theorem IntsAt.start {b l : Addr} {H H1 : Hp} {D : Addr} (hB : BoxAt H1 b l) (x : KB b l H H1) (n : H1 D = none) : IntsAt b l H D 0 (upd H1 D (.lst [])) := by
  obtain ⟨d1, d2⟩ := new_ne hB n
  have nD := new_old x hB n
  exact ⟨box_new hB n, kb_upd x nD, nD, d1, d2, [], rfl, upd_same⟩
theorem IntsAt.more {b l : Addr} {H H1 H2 : Hp} {D : Addr} {i : Nat} {z : Int} (o : IntsAt b l H D i H1) (hB : BoxAt H2 b l) (x : KB b l H1 H2) :
    ∃ acc, H2 D = some (.lst acc) ∧ acc.length = i ∧ IntsAt b l H D (i + 1) (upd H2 D (.lst (acc ++ [.int z]))) := by
  obtain ⟨zs, h1, h3⟩ := o.isat
  refine ⟨_, x D _ h3 o.db o.dl, by rw [List.length_map, h1], box_upd hB o.db o.dl, kb_upd (o.keep.trans x) o.nD, o.nD, o.db, o.dl, zs ++ [z], by rw [List.length_append, h1]; rfl, ?_⟩
  rw [upd_same]
  simp
/-- rows' tuples -/
def RowsP (H : Hp) (as : List Addr) : Prop := ∀ p ∈ as, ∃ r, H p = some (.tup (sV r)) ∧ RowOk r
theorem RowsP.keep {H H' : Hp} {as : List Addr} (x : RowsP H as) (k : ∀ p xs, H p = some (.tup xs) → H' p = some (.tup xs)) : RowsP H' as := fun p hp => by
  obtain ⟨r, h1, h2⟩ := x p hp
  exact ⟨r, k _ _ h1, h2⟩
theorem RowsP.page {H : Hp} : ∀ {as : List Addr}, RowsP H as → ∃ rows : List (List Str), as.length = rows.length ∧ (∀ (i : Nat) (p : Addr) (r : List Str), as[i]? = some p → rows[i]? = some r → H p = some (.tup (sV r))) ∧ ∀ r ∈ rows, RowOk r
  | [], _ => ⟨[], rfl, fun i p r h => by simp at h, fun r h => by simp at h⟩
  | a :: as, x => by
    obtain ⟨rows, h1, h2, h3⟩ := RowsP.page (as := as) fun p hp => x p (List.mem_cons_of_mem _ hp)
    obtain ⟨r, g1, g2⟩ := x a List.mem_cons_self
    refine ⟨r :: rows, by rw [List.length_cons, List.length_cons, h1], fun i p q e1 e2 => ?_, fun q hq => ?_⟩
    · cases i with
      | zero => cases e1; cases e2; exact g1
      | succ i => exact h2 i p q (by simpa using e1) (by simpa using e2)
    · rcases List.mem_cons.mp hq with z | z
      · rw [z]; exact g2
      · exact h3 q z
section
variable {P : Program} {w : World} {K : PySem.W.Frag} {mg : Str → Option Value} {base : Heap} {cs : List (Addr × Addr)}
def spStyleD : Sp := fun vs H Q _ => ∃ (b l : Addr), vs = [.ref b] ∧ BoxAt H b l ∧
  ∀ (p : Addr) (gap least : Int) (H' : Hp), BoxAt H' b l → KB b l H H' → H p = none → H' p = some (.tup [.int gap, .int least]) → 0 ≤ gap → gap ≤ 4 → 0 ≤ least → least ≤ 12 → Q (.ref p) H'
theorem sc_lstyle : FnScope ["_law_box", "_law_gap"] ["_law_box"] (defScope s_style) := ⟨rfl, rfl, rfl, by decide +kernel, rfl, by decide +kernel, by decide +kernel⟩
theorem ok_lstyle {f g : Addr} {fd fdg : FuncData} (F : Fun K "_law_style" "_law_style" s_style f fd)
    (G : FnOk P w K mg base CX0 1 g fdg ["_law_box", "_law_many"] spTake) (kp : PySem.W.keepIn K (.ref g) = true) (bd : Binds K fdg ["_law_box", "_law_many"] []) (mgg : mg "_law_take" = some (.ref g)) : FnOk P w K mg base CX0 2 f fd ["_law_box"] spStyleD := by
  refine F.ok sc_lstyle (fun vs H Q E h => ?_) (fun cdv A outer s H vs Q E hr h => ?_)
  · obtain ⟨b, l, rfl, _⟩ := h
    rfl
  · obtain ⟨b, l, rfl, hB, k⟩ := h
    have nd := sc_lstyle.nd
    refine ⟨_, pss_cons (ps_set (i := 1) nd rfl (.inl rfl) (pe_ix ix_list (pe_lst (pa_cons (pe_call G hr (by rfl) mgg kp bd .nil pass0 (pa_cons (pv 0) (pa_cons pe_int pa_nil))) (pa_cons pe_int (pa_cons pe_int pa_nil)))) (pe_call G hr (by rfl) mgg kp bd .nil pass0 (pa_cons (pv 0) (pa_cons pe_int pa_nil))) (fun _ _ => rfl)))
      (pss_one (ps_ret (pe_tup (pa_cons (pv 1) (pa_cons (pe_ix ix_list (pe_lst (pa_cons pe_int (pa_cons (pe_call G hr (by rfl) mgg kp bd .nil pass0 (pa_cons (pv 0) (pa_cons pe_int pa_nil))) (pa_cons (pe_call G hr (by rfl) mgg kp bd .nil pass0 (pa_cons (pv 0) (pa_cons pe_int pa_nil))) pa_nil))))
        (pe_call G hr (by rfl) mgg kp bd .nil pass0 (pa_cons (pv 0) (pa_cons pe_int pa_nil))) (fun _ _ => rfl)) pa_nil))))), ?_⟩
    refine ⟨_, rfl, b, l, 5, rfl, hB, by decide, by decide, fun g0 H1 a0 a1 hB1 x1 => ⟨line10 (by show 3 ≤ 1000; decide), fun p np => ⟨_, rfl, b, l, 3, rfl, box_new hB1 np, by decide, by decide, fun r H2 r0 r1 hB2 x2 => ?_⟩⟩⟩
    obtain ⟨nb, nl⟩ := new_ne hB1 np
    have hp := x2 p _ upd_same nb nl
    obtain ⟨gap, hg, eg⟩ := pick (xs := [g0, 1, 2]) (i := r) r0 r1
    have hg2 : 0 ≤ gap ∧ gap ≤ 4 := by
      simp only [List.mem_cons, List.not_mem_nil, or_false] at hg
      omega
    have y2 := (x1.trans (kb_new np)).trans x2
    refine ⟨p, _, _, .int gap, rfl, rfl, SqL.of hp, atI_map (f := V.int) eg, ?_⟩
    refine ⟨_, rfl, _, rfl, b, l, 13, rfl, hB2, by decide, by decide, fun l1 H3 b0 b1 hB3 x3 => ⟨_, rfl, b, l, 13, rfl, hB3, by decide, by decide, fun l2 H4 c0 c1 hB4 x4 => ⟨line10 (by show 3 ≤ 1000; decide), fun q nq => ⟨_, rfl, b, l, 3, rfl, box_new hB4 nq, by decide, by decide, fun r2 H5 s0 s1 hB5 x5 => ?_⟩⟩⟩⟩
    obtain ⟨nb2, nl2⟩ := new_ne hB4 nq
    have hq := x5 q _ upd_same nb2 nl2
    obtain ⟨least, hl, el⟩ := pick (xs := [0, l1, l2]) (i := r2) s0 s1
    have hl2 : 0 ≤ least ∧ least ≤ 12 := by
      simp only [List.mem_cons, List.not_mem_nil, or_false] at hl
      omega
    have y5 := (((y2.trans x3).trans x4).trans (kb_new nq)).trans x5
    exact ⟨q, _, _, .int least, rfl, rfl, SqL.of hq, atI_map (f := V.int) el, line10 (by show 2 ≤ 1000; decide), fun t nt => k t gap least _ (box_new hB5 nt) (y5.trans (kb_new nt)) (new_old y5 hB5 nt) upd_same hg2.1 hg2.2 hl2.1 hl2.2⟩
end
end TG
namespace TG
open PySem L2 Gx
theorem same_refl {H : Hp} : Same H H := fun _ _ h => h
theorem same_trans {H H1 H2 : Hp} (a : Same H H1) (b : Same H1 H2) : Same H H2 := fun c o h => b c o (a c o h)
theorem same_new {H : Hp} {p : Addr} {o : HO} (n : H p = none) : Same H (upd H p o) := fun c u h => by rw [upd_ne (ne_of_none h n)]; exact h
theorem same_upd {H H' : Hp} {p : Addr} {o : HO} (x : Same H H') (n : H p = none) : Same H (upd H' p o) := fun c u h => by rw [upd_ne (ne_of_none h n)]; exact x c u h
theorem same_sqL {K : PySem.W.Frag} {H H' : Hp} {a : Addr} {xs : List V} (e : Same H H') (h : SqL K H a xs) : SqL K H' a xs := by
  rcases h with (z | ⟨o, z⟩) | z
  · exact .inl (.inl (e _ _ z))
  · exact .inl (.inr ⟨o, e _ _ z⟩)
  · exact .inr z
theorem same_sqT {K : PySem.W.Frag} {H H' : Hp} {a : Addr} {xs : List V} (e : Same H H') (h : SqT K H a xs) : SqT K H' a xs := by
  rcases h with (z | ⟨o, z⟩) | z
  · exact .inl (.inl (e _ _ z))
  · exact .inl (.inr ⟨o, e _ _ z⟩)
  · exact .inr z
theorem PageAt.same {K : PySem.W.Frag} {H H' : Hp} {a : Addr} {as : List Addr} {rows : List (List Str)} (p : PageAt K H a as rows) (e : Same H H') : PageAt K H' a as rows :=
  ⟨same_sqL e p.lst, p.len, fun i q r h1 h2 => same_sqT e (p.row i q r h1 h2)⟩
theorem same_old {H H' : Hp} {p : Addr} (e : Same H H') (n : H' p = none) : H p = none := by
  cases q : H p with
  | none => rfl
  | some o => rw [e _ _ q] at n; cases n
theorem canAll_strs : ∀ {zs : List Str}, (∀ z ∈ zs, ∀ c ∈ cl z, SgOk c) → PyData.canLayAll0 (zs.map PyData.str) = true
  | [], _ => rfl
  | z :: zs, h => by
    rw [List.map_cons]
    simp only [PyData.canLayAll0, PyData.canLay0, Bool.and_eq_true]
    refine ⟨?_, canAll_strs fun y hy => h y (List.mem_cons_of_mem _ hy)⟩
    unfold PyData.strOk
    rw [← Array.all_toList, List.all_eq_true]
    intro c hc
    have := h z List.mem_cons_self c hc
    unfold SgOk at this
    exact decide_eq_true (by omega)
theorem depthAll_strs : ∀ zs : List Str, PyData.depthAll (zs.map PyData.str) = 0
  | [] => rfl
  | _ :: r => by simp [PyData.depthAll, PyData.depth, depthAll_strs r]
theorem dp_strs {K : PySem.W.Frag} {H : Hp} : ∀ zs : List Str, DpAll K H (sV zs) (zs.map PyData.str)
  | [] => .nil
  | z :: zs => .cons (.str z) (dp_strs zs)
section
variable {P : Program} {w : World} {K : PySem.W.Frag} {mg : Str → Option Value} {base : Heap} {cs : List (Addr × Addr)}
end
end TG
namespace TG
open PySem L2 Gx
def loB (rows : List (List Str)) (c : Nat) : Nat → Nat
  | 0 => 0
  | i + 1 => if clB rows c i = true then loB rows c i else i + 1
section
variable {P : Program} {w : World} {K : PySem.W.Frag} {mg : Str → Option Value} {base : Heap} {cs : List (Addr × Addr)}
end
end TG
namespace TG
open PySem L2 Gx
end TG
namespace TG
open PySem L2 Gx
def wB (rows : List (List Str)) (gap least : Int) (i c : Nat) : Int := widthB (cellsB rows c (loB rows c i) (hiB rows c i)) gap least
def rB (rows : List (List Str)) (i c : Nat) : Bool := rightB (cellsB rows c (loB rows c i) (hiB rows c i))
end TG
namespace TG
open PySem L2 Gx
section
variable {P : Program} {w : World} {K : PySem.W.Frag} {mg : Str → Option Value} {base : Heap} {cs : List (Addr × Addr)}
end
end TG
namespace TG
open PySem L2 Gx
/-- the list at l holds what is told of the first n closed cells of row i -/
def CellsAt (H : Hp) (rows : List (List Str)) (gap least : Int) (i n : Nat) (l : Addr) : Prop :=
  ∃ ts : List Addr, H l = some (.lst (ts.map V.ref)) ∧ ts.length = n ∧ ∀ (c : Nat) (t : Addr), ts[c]? = some t → H t = some (.tup [.int (wB rows gap least i c), .bl (rB rows i c)])
theorem CellsAt.ext {H H' : Hp} {rows : List (List Str)} {gap least : Int} {i n : Nat} {l : Addr} (x : CellsAt H rows gap least i n l) (e : LamX.ExtN H H') : CellsAt H' rows gap least i n l :=
  let ⟨ts, h1, h2, h3⟩ := x
  ⟨ts, e _ _ h1 (by intro ps z; cases z), h2, fun c t h => e _ _ (h3 c t h) (by intro ps z; cases z)⟩
theorem CellsAt.upd {H : Hp} {rows : List (List Str)} {gap least : Int} {i n : Nat} {l p : Addr} {xs : List V} {o : HO} (x : CellsAt H rows gap least i n l) (hp : H p = some (.lst xs)) (ne : l ≠ p) : CellsAt (upd H p o) rows gap least i n l :=
  let ⟨ts, h1, h2, h3⟩ := x
  ⟨ts, by rw [upd_ne ne]; exact h1, h2, fun c t h => by rw [upd_ne (ne_of (h3 c t h) hp (by intro z; cases z))]; exact h3 c t h⟩
section
variable {P : Program} {w : World} {K : PySem.W.Frag} {mg : Str → Option Value} {base : Heap} {cs : List (Addr × Addr)}
end
end TG
namespace TG
open PySem L2 Gx
/-- the list at r holds lists of numbers, f tells them -/
structure ToldAt (H : Hp) (r : Addr) (es : List Addr) (f : Nat → List Int) (n : Nat) : Prop where
  lst : H r = some (.lst (es.map V.ref))
  len : es.length = n
  nd : es.Nodup
  at_ : ∀ (i : Nat) (e : Addr), es[i]? = some e → H e = some (.lst ((f i).map V.int))
theorem ToldAt.ext {H H' : Hp} {r : Addr} {es : List Addr} {f : Nat → List Int} {n : Nat} (t : ToldAt H r es f n) (x : LamX.ExtN H H') : ToldAt H' r es f n :=
  ⟨x _ _ t.lst (by intro ps z; cases z), t.len, t.nd, fun i e h => x _ _ (t.at_ i e h) (by intro ps z; cases z)⟩
theorem same_ext {H H' : Hp} (x : Same H H') : LamX.ExtN H H' := fun b o e _ => x b o e
theorem ToldAt.add {H H' : Hp} {r : Addr} {es : List Addr} {f : Nat → List Int} {n : Nat} {e : Addr} (t : ToldAt H r es f n) (x : LamX.ExtN H H') (he : H e = none) (h' : H' e = some (.lst ((f n).map V.int))) (hr : r ∉ es) :
    ToldAt (upd H' r (.lst (es.map V.ref ++ [.ref e]))) r (es ++ [e]) f (n + 1) := by
  refine ⟨by rw [upd_same, List.map_append]; rfl, by rw [List.length_append, t.len]; rfl, ?_, fun i u h => ?_⟩
  · refine List.nodup_append.mpr ⟨t.nd, by simp, fun u hu v hv q => ?_⟩
    rw [List.mem_singleton.mp hv] at q
    obtain ⟨i, hi, e1⟩ := List.getElem_of_mem hu
    have := t.at_ i u (by rw [List.getElem?_eq_getElem hi, e1])
    rw [q, he] at this
    cases this
  · have re : e ≠ r := fun z => by rw [z, t.lst] at he; cases he
    by_cases hi : i < es.length
    · rw [List.getElem?_append_left hi] at h
      rw [upd_ne (fun z => hr (by rw [← z]; exact List.mem_of_getElem? h))]
      exact x _ _ (t.at_ i u h) (by intro ps z; cases z)
    · have hl := (List.getElem?_eq_some_iff.mp h).1
      rw [List.length_append, List.length_singleton] at hl
      have e1 : i = es.length := by omega
      subst e1
      rw [List.getElem?_append_right (Nat.le_refl _), Nat.sub_self] at h
      cases h
      rw [upd_ne re, h', t.len]
section
variable {P : Program} {w : World} {K : PySem.W.Frag} {mg : Str → Option Value} {base : Heap} {cs : List (Addr × Addr)}
end
end TG
namespace TG
open PySem L2 Gx
section
variable {P : Program} {w : World} {K : PySem.W.Frag} {mg : Str → Option Value} {base : Heap} {cs : List (Addr × Addr)}
end
end TG
namespace TG
open PySem L2 Gx
section
variable {P : Program} {w : World} {K : PySem.W.Frag} {mg : Str → Option Value} {base : Heap} {cs : List (Addr × Addr)}
end
end TG
namespace TG
open PySem L2 Gx
theorem ToldAt.go {H H' : Hp} {r : Addr} {es : List Addr} {f : Nat → List Int} {n : Nat} (t : ToldAt H r es f n) (x : Same H H') : ToldAt H' r es f n := t.ext (same_ext x)
section
variable {P : Program} {w : World} {K : PySem.W.Frag} {mg : Str → Option Value} {base : Heap} {cs : List (Addr × Addr)}
theorem StyleAt.same {H H' : Hp} {a : Addr} {gap least : Int} (p : StyleAt K H a gap least) (e : Same H H') : StyleAt K H' a gap least := ⟨same_sqT e p.tup, p.g0, p.g1, p.l0, p.l1⟩
end
end TG
namespace TG
open PySem L2 Gx
theorem ToldAt.congr {H : Hp} {r : Addr} {es : List Addr} {f g : Nat → List Int} {n : Nat} (t : ToldAt H r es f n) (e : ∀ i, i < n → f i = g i) : ToldAt H r es g n :=
  ⟨t.lst, t.len, t.nd, fun i u h => by rw [← e i (by rw [← t.len]; exact (List.getElem?_eq_some_iff.mp h).1)]; exact t.at_ i u h⟩
theorem ToldAt.put {H : Hp} {r : Addr} {es : List Addr} {f : Nat → List Int} {n i : Nat} {e : Addr} {xs : List Int} (t : ToldAt H r es f n) (he : es[i]? = some e) (ne : e ≠ r) : ToldAt (upd H e (.lst (xs.map V.int))) r es (fun k => if k = i then xs else f k) n := by
  refine ⟨by rw [upd_ne ne.symm]; exact t.lst, t.len, t.nd, fun k u h => ?_⟩
  by_cases q : k = i
  · subst q
    rw [he] at h
    cases h
    rw [upd_same, if_pos rfl]
  · rw [if_neg q, upd_ne (fun z => q (nd_ix t.nd h (by rw [z]; exact he)))]
    exact t.at_ k u h
section
variable {P : Program} {w : World} {K : PySem.W.Frag} {mg : Str → Option Value} {base : Heap} {cs : List (Addr × Addr)}
end
end TG
namespace TG
open PySem L2 Gx
def rowsD (rows : List (List Str)) : List PyData := rows.map fun r => .tuple (r.map .str)
theorem dp_rows {K : PySem.W.Frag} {H : Hp} : ∀ {as : List Addr} {rows : List (List Str)}, as.length = rows.length → (∀ (i : Nat) (q : Addr) (r : List Str), as[i]? = some q → rows[i]? = some r → SqT K H q (sV r)) → DpAll K H (as.map V.ref) (rowsD rows)
  | [], [], _, _ => .nil
  | [], _ :: _, h, _ => by simp at h
  | _ :: _, [], h, _ => by simp at h
  | a :: as, r :: rows, h, k => .cons (.tup (k 0 a r rfl rfl) (dp_strs r)) (dp_rows (by simpa using h) fun i q r' h1 h2 => k (i + 1) q r' (by simpa using h1) (by simpa using h2))
theorem canAll_rows : ∀ {rows : List (List Str)}, (∀ r ∈ rows, ∀ z ∈ r, CellOk z) → PyData.canLayAll0 (rowsD rows) = true
  | [], _ => rfl
  | r :: rows, h => by
    show PyData.canLayAll0 (.tuple (r.map .str) :: rowsD rows) = true
    simp only [PyData.canLayAll0, PyData.canLay0, Bool.and_eq_true]
    exact ⟨canAll_strs fun z hz => (h r List.mem_cons_self z hz).sg, canAll_rows fun r' hr => h r' (List.mem_cons_of_mem _ hr)⟩
theorem depthAll_rows : ∀ rows : List (List Str), PyData.depthAll (rowsD rows) ≤ 1
  | [] => Nat.zero_le _
  | r :: rows => by
    show PyData.depthAll (.tuple (r.map .str) :: rowsD rows) ≤ 1
    simp only [PyData.depthAll, PyData.depth, depthAll_strs]
    have := depthAll_rows rows
    omega
theorem can_rows {rows : List (List Str)} (h : PgOk rows) : PyData.canLay0 (.list (rowsD rows)) = true := by
  simp only [PyData.canLay0]
  exact canAll_rows fun r hr z hz => (h.rows r hr).cells z hz
theorem shaped_rows {rows : List (List Str)} (h : PgOk rows) : SeqAt.shaped (.list (rowsD rows)) = true := by
  have := depthAll_rows rows
  unfold SeqAt.shaped
  rw [can_rows h, Bool.true_and]
  exact decide_eq_true (by simp only [PyData.depth]; omega)
theorem box_ext {b l : Addr} {H H' : Hp} (B : BoxAt H b l) (x : LamX.ExtN H H') : BoxAt H' b l := let ⟨ns, st, h1, h2, h3⟩ := B; ⟨ns, st, x _ _ h1 (by intro ps z; cases z), x _ _ h2 (by intro ps z; cases z), h3⟩
/-- what stands in a turn of the law: the box, the tables, the page and its copy, the style -/
structure PageT (cs : List (Addr × Addr)) (b l p q h : Addr) (as : List Addr) (rows : List (List Str)) (gap least : Int) (H : Hp) : Prop where
  box : BoxAt H b l
  tab : Tabs cs H
  pg : H p = some (.lst (as.map V.ref))
  hd : H h = some (.lst (as.map V.ref))
  al : as.length = rows.length
  row : ∀ (i : Nat) (a : Addr) (z : List Str), as[i]? = some a → rows[i]? = some z → H a = some (.tup (sV z))
  sty : H q = some (.tup [.int gap, .int least])
  g0 : 0 ≤ gap
  g1 : gap ≤ 4
  l0 : 0 ≤ least
  l1 : least ≤ 12
  ok : PgOk rows
theorem PageT.ext {cs : List (Addr × Addr)} {b l p q h : Addr} {as : List Addr} {rows : List (List Str)} {gap least : Int} {H H' : Hp} (t : PageT cs b l p q h as rows gap least H) (x : LamX.ExtN H H') (y : Tabs cs H') : PageT cs b l p q h as rows gap least H' :=
  ⟨box_ext t.box x, y, x _ _ t.pg (by intro ps z; cases z), x _ _ t.hd (by intro ps z; cases z), t.al, fun i a z h1 h2 => x _ _ (t.row i a z h1 h2) (by intro ps z; cases z), x _ _ t.sty (by intro ps z; cases z), t.g0, t.g1, t.l0, t.l1, t.ok⟩
end TG
namespace Zm
open PySem PySem.Spec PyProof.Rows L2
section
variable {P : Program} {w : World} {A : Around} {E : Value → Shared → Prop} {s : Shared} {z TI TO i1 i2 l1 l2 : Addr}
end
end Zm
namespace Zm
open PySem PySem.Spec PyProof.Rows L2
abbrev k1 (h : Heap) (a : Addr) : Heap := h.push { cls := .type "tuple_iterator", data := .fields #[.ref a, .int 0 0] }
abbrev k2 (h : Heap) (a b : Addr) : Heap := (k1 h a).push { cls := .type "list_iterator", data := .fields #[.ref b, .int 0 0] }
abbrev k3 (h : Heap) (a b : Addr) : Heap := (k2 h a b).push { cls := .type "tuple", data := .seq #[.ref h.objs.size, .ref (k1 h a).objs.size] }
abbrev k4 (h : Heap) (a b : Addr) : Heap := (k3 h a b).push { cls := .type "tuple", data := .seq #[.none, .none] }
abbrev k5 (h : Heap) (a b : Addr) : Heap := (k4 h a b).push { cls := .type "zip", data := .fields #[.none, .bool false, .bool false, .ref (k2 h a b).objs.size, .ref (k3 h a b).objs.size] }
theorem made (a b : Addr) (xs ys : Array Value) : Meets (Builtin.«zip.__new__» ⟨[.type "zip", .ref a, .ref b], []⟩) (fun _ R t => t.heap.IsTuple a xs ∧ t.heap.IsList b ys ∧ R (.ok (.ret (.ref (k4 t.heap a b).objs.size))) { t with heap := k5 t.heap a b }) :=
  .of_wp fun P w A R t h => by
    obtain ⟨hp, g, d, tk, os⟩ := t
    obtain ⟨u1, u2, h⟩ := h
    have hsub := sub_zip
    have v1 : Heap.IsTuple (Shared.heap ⟨hp, g, d, tk, os⟩) a xs := u1
    have v2 : Heap.IsList (Shared.heap ⟨hp.push { cls := .type "tuple_iterator", data := .fields #[.ref a, .int 0 0] }, g, d, tk, os⟩) b ys := Heap.IsList.push u2 _
    wp_walk using wpAny_pyIter_tuple v1, wpAny_pyIter_list v2
    exact ⟨_, rfl, h⟩
section
variable {P : Program} {w : World} {A : Around} {E : Value → Shared → Prop} {s : Shared}
end
end Zm
namespace TG
open PySem L2 Gx
section
variable {P : Program} {w : World} {K : PySem.W.Frag} {mg : Str → Option Value} {base : Heap} {cs : List (Addr × Addr)}
end
end TG
namespace TG
open PySem L2 Gx
section
variable {P : Program} {w : World} {K : PySem.W.Frag} {mg : Str → Option Value} {base : Heap} {cs : List (Addr × Addr)}
end
end TG
namespace Lv
open PySem PySem.Spec PyProof.Rows L2 NdefX GenW
/-- the object at f is the lambda F of the body e -/
def FnL (f : Addr) (F : NF) (e : Expr) : HO := .ext fun h => ∃ (od : Option Addr) (sl : Array (Option Value)) (pm ctv : Value), h.get? f = some (⟨.type "function", od, .func (PySem.W.kla_fn F.name F.qual F.params e F.scope F.cl pm (.ref F.c) ctv), sl⟩ : Obj)
theorem fnL_at {P : Program} {w : World} {H : Hp} {h : Heap} {f : Addr} {F : NF} {e : Expr} (hok : HOk P w H h) (q : H f = some (FnL f F e)) : ∃ (od : Option Addr) (sl : Array (Option Value)) (pm ctv : Value), h.get? f = some (⟨.type "function", od, .func (PySem.W.kla_fn F.name F.qual F.params e F.scope F.cl pm (.ref F.c) ctv), sl⟩ : Obj) := by
  have z := hok f _ q
  obtain ⟨z, _, _⟩ := z
  exact z
theorem fnL_ne {f : Addr} {F : NF} {e : Expr} (ps : Array Value) : FnL f F e ≠ .tbl ps := fun z => by
  unfold FnL at z
  cases z
section
variable {X : Cx} {pins : List (Addr × Obj)} {σ : L2.St} {H : Hp} {s : Shared}
theorem inv_lam {F : NF} {e : Expr} {tk : Nat} {pm ctv : Value} (I : Inv X pins σ H s) :
    Inv X pins σ (upd H s.heap.objs.size (FnL s.heap.objs.size F e)) { s with heap := s.heap.push (PySem.W.kla_obj F.name F.qual F.params e F.scope F.cl pm F.c ctv), toks := tk } := by
  refine I.laid (a := s.heap.objs.size) (fun b u q => Heap.get?_push_of_some _ q) (Nat.le_refl _) ?_
  have q : (s.heap.push (PySem.W.kla_obj F.name F.qual F.params e F.scope F.cl pm F.c ctv)).get? s.heap.objs.size = some (PySem.W.kla_obj F.name F.qual F.params e F.scope F.cl pm F.c ctv) := Heap.get?_push_size _ rfl
  exact ⟨⟨_, _, pm, ctv, q⟩, ⟨_, q⟩, fun h1 h2 ⟨od, sl, p, t, z⟩ st => ⟨od, sl, p, t, st _ z⟩⟩
/-- a lambda's object is made, its code object too, if the table has none yet -/
theorem lam_val {c P : Addr} {params : Arguments} {body : Expr} {scope : Scope} {pos : Pos} {E : Value → Shared → Prop} {Q : Value → Shared → Prop} (I : Inv X pins σ H s) (B : LamX.TabB X.base X.mg c P) (hcode : X.env.code = .ref c)
    (hT : LamX.TabS H P (X.env.qual ++ "<lambda>")) (hdef : defaultsOf params X.env = ([], [])) (hfree : ∀ y ∈ scope.names, y.2 = .free → ∃ c, X.env.cells.lookup y.1 = some c)
    (k : ∀ (f c' : Addr) (H1 : Hp) (s' : Shared), Inv X pins σ H1 s' → (∀ b o, H b = some o → b ≠ P → H1 b = some o) → (∀ b, H1 b = none → H b = none) → LamX.TabS H1 P (X.env.qual ++ "<lambda>") → H f = none →
      H1 f = some (FnL f ⟨"<lambda>", X.env.qual ++ "<lambda>", params, [], scope, cloFrom X.env.cells scope.names [], c'⟩ body) → H1 c' = some (LamX.CodeO c' (X.env.qual ++ "<lambda>")) → Q (.ref f) s') :
    wpAny (model X.prog X.w) X.A (eval (.Lambda params body scope pos) X.env) Q E s := by
  obtain ⟨ps, tP, tok, tin⟩ := hT
  have bP : s.heap.BuiltinsAt X.mg P := B.bm.keeps I.bk
  have gP : s.heap.get? P = some { cls := .none, data := .fields ps } := I.hok P _ tP
  have none3 : ∀ {G : Hp} {x y z : Addr} {o u v : HO} {b : Addr}, upd (upd (upd G x o) y u) z v b = none → G b = none := fun {G x y z o u v b} q => by
    have r1 := q
    unfold upd at r1
    split at r1
    · cases r1
    split at r1
    · cases r1
    split at r1
    · cases r1
    exact r1
  refine PySem.W.kla_eval hdef ?_
  cases hc : codeAmong pos ps.toList with
  | some cv =>
    obtain ⟨c', e, hco⟩ := tin pos cv hc
    subst e
    refine PySem.W.kla_makeFunctionHit (mg := X.mg) (c := c) (P := P) (ps := ps) (closure_ok hfree) I.ok.glob (I.mod.glob.keeps I.bk) hcode (B.code.keeps I.bk) gP tok hc bP fun ctv h' tk hx hsz => ?_
    have I1 : Inv X pins σ H { s with heap := h', toks := tk } := I.kept hx
    have nF : H h'.objs.size = none := I1.hok.fresh (Nat.le_refl _)
    have I2 := inv_lam (F := ⟨"<lambda>", X.env.qual ++ "<lambda>", params, [], scope, cloFrom X.env.cells scope.names [], c'⟩) (e := body) (tk := tk) (pm := (X.mg "__name__").getD .none) (ctv := ctv) I1
    refine k h'.objs.size c' _ _ I2 (fun b o q _ => by rw [upd_ne (ne_of_none q nF)]; exact q) (fun b q => ?_) ⟨ps, by rw [upd_ne (ne_of_none tP nF)]; exact tP, tok, fun p' cv' q => ?_⟩ nF upd_same (by rw [upd_ne (ne_of_none hco nF)]; exact hco)
    · unfold upd at q
      split at q
      · cases q
      · exact q
    · obtain ⟨c0, e1, e2⟩ := tin p' cv' q
      exact ⟨c0, e1, by rw [upd_ne (ne_of_none e2 nF)]; exact e2⟩
  | none =>
    refine PySem.W.kla_makeFunction (mg := X.mg) (c := c) (P := P) (ps := ps) (closure_ok hfree) I.ok.glob (I.mod.glob.keeps I.bk) hcode (B.code.keeps I.bk) gP tok hc B.gP bP fun c' ctv h' tk hx hge hlt hrec htb => ?_
    obtain ⟨c2, oc, vs, t, e2, hoc, hd, hv⟩ := hrec
    cases e2
    have nC : H c' = none := I.hok.fresh hge
    have I1 := LamX.inv_table (t' := tk) (more := #[rawInt pos.line, rawInt pos.col, .ref c']) (h' := h') I tP (fun b o hb q => hx b o hb q) htb hge ⟨oc, vs, t, hoc, hd, hv⟩
    have nF := I1.hok.fresh (Nat.le_refl _)
    have I2 := inv_lam (F := ⟨"<lambda>", X.env.qual ++ "<lambda>", params, [], scope, cloFrom X.env.cells scope.names [], c'⟩) (e := body) (tk := tk) (pm := (X.mg "__name__").getD .none) (ctv := ctv) I1
    have fC : h'.objs.size ≠ c' := Nat.ne_of_gt hlt
    have pC : P ≠ c' := ne_of_none tP nC
    have nF0 : H h'.objs.size = none := I.hok.fresh (Nat.le_trans hge (Nat.le_of_lt hlt))
    have pF : P ≠ h'.objs.size := ne_of_none tP nF0
    have eL : (ps ++ #[rawInt pos.line, rawInt pos.col, .ref c']).toList = ps.toList ++ [rawInt pos.line, rawInt pos.col, .ref c'] := by simp
    have kk : ∀ b o, H b = some o → b ≠ P → upd (upd (upd H P (.tbl (ps ++ #[rawInt pos.line, rawInt pos.col, .ref c']))) c' (LamX.CodeO c' (X.env.qual ++ "<lambda>"))) h'.objs.size (FnL h'.objs.size ⟨"<lambda>", X.env.qual ++ "<lambda>", params, [], scope, cloFrom X.env.cells scope.names [], c'⟩ body) b = some o := fun b o q hb => by
      rw [upd_ne (ne_of_none q nF0), upd_ne (ne_of_none q nC), upd_ne hb]
      exact q
    refine k h'.objs.size c' _ _ I2 kk (fun b q => none3 q) ⟨_, by rw [upd_ne pF, upd_ne pC, upd_same], by rw [eL]; exact PySem.TriplesOk_snoc _ _ _ _ tok, fun p' cv q => ?_⟩ nF0 upd_same (by rw [upd_ne fC.symm, upd_same])
    rw [eL] at q
    rcases LamX.among_app _ tok q with z | z
    · obtain ⟨c0, e1, e2⟩ := tin p' cv z
      exact ⟨c0, e1, kk _ _ e2 (fun y => by rw [y, tP] at e2; exact LamX.codeO_ne ps (Option.some.inj e2).symm)⟩
    · exact ⟨c', z, by rw [upd_ne fC.symm, upd_same]⟩
end
section
variable {P : Program} {w : World} {K : PySem.W.Frag} {mg : Str → Option Value} {base : Heap}
end
end Lv
namespace TG
open PySem PySem.Spec PyProof.Rows L2
abbrev cellF (o : Obj) : HO := .frz o (.own 0)
def addC (H : Hp) (cl : List (Addr × Obj)) : Hp := fun b => match cl.lookup b with
  | some o => some (cellF o)
  | none => H b
def delC (H : Hp) (cl : List (Addr × Obj)) : Hp := fun b => match cl.lookup b with
  | some _ => none
  | none => H b
theorem addC_in {H : Hp} {cl : List (Addr × Obj)} {b : Addr} {o : Obj} (h : cl.lookup b = some o) : addC H cl b = some (cellF o) := by unfold addC; rw [h]
theorem addC_out {H : Hp} {cl : List (Addr × Obj)} {b : Addr} (h : cl.lookup b = none) : addC H cl b = H b := by unfold addC; rw [h]
theorem delC_in {H : Hp} {cl : List (Addr × Obj)} {b : Addr} {o : Obj} (h : cl.lookup b = some o) : delC H cl b = none := by unfold delC; rw [h]
theorem delC_out {H : Hp} {cl : List (Addr × Obj)} {b : Addr} (h : cl.lookup b = none) : delC H cl b = H b := by unfold delC; rw [h]
section
variable {P : Program} {w : World}
theorem objOk_congr {H1 H2 : Hp} {h : Heap} {a : Addr} (k : ∀ b o, H1 b = some o → (∀ u v, o ≠ .frz u v) → H2 b = some o) : ∀ u : HO, ObjOk P w H1 h a u → ObjOk P w H2 h a u
  | .lst _, x => x
  | .tup _, x => x
  | .dK _, x => x
  | .dT _, ⟨x1, x2, xs, x3, x4⟩ => ⟨x1, x2, xs, x3.mono fun p q ⟨e1, e2, e3⟩ => ⟨e1, k _ _ e2 (fun u v z => by cases z), e3⟩, x4⟩
  | .set _ _, x => x
  | .ins _ _ _, ⟨x1, x2⟩ => ⟨k _ _ x1 (fun u v z => by cases z), x2⟩
  | .own _, x => x
  | .xd _, x => x
  | .rng _ _, x => x
  | .frz _ u, ⟨x1, x2⟩ => ⟨x1, objOk_congr k u x2⟩
  | .tbl _, x => x
  | .met _ _, x => x
  | .ext _, x => x
/-- the cells stand as they are told, and were untold -/
structure CellsIn (cl : List (Addr × Obj)) (base : Heap) (fs : List Addr) (h : Heap) : Prop where
  at_ : ∀ c o, cl.lookup c = some o → h.get? c = some o ∧ base.get? c = none ∧ c ∉ fs
theorem hok_add {H : Hp} {h : Heap} {cl : List (Addr × Obj)} (hk : HOk P w H h) (n : ∀ c o, cl.lookup c = some o → H c = none ∧ h.get? c = some o) : HOk P w (addC H cl) h := fun a o e => by
  cases q : cl.lookup a with
  | some u =>
    rw [addC_in q] at e
    cases e
    exact ⟨(n a u q).2, ⟨u, (n a u q).2⟩⟩
  | none =>
    rw [addC_out q] at e
    refine objOk_congr (fun b v hb _ => ?_) o (hk a o e)
    cases r : cl.lookup b with
    | some u => rw [(n b u r).1] at hb; cases hb
    | none => rw [addC_out r]; exact hb
theorem hok_del {H : Hp} {h : Heap} {cl : List (Addr × Obj)} (hk : HOk P w H h) (n : ∀ c o, cl.lookup c = some o → H c = some (cellF o)) : HOk P w (delC H cl) h := fun a o e => by
  cases q : cl.lookup a with
  | some u => rw [delC_in q] at e; cases e
  | none =>
    rw [delC_out q] at e
    refine objOk_congr (fun b v hb nf => ?_) o (hk a o e)
    cases r : cl.lookup b with
    | some u =>
      rw [n b u r] at hb
      cases hb
      exact absurd rfl (nf _ _)
    | none => rw [delC_out r]; exact hb
variable {K : PySem.W.Frag} {mg : Str → Option Value} {base : Heap} {A : Around} {outer : List Env} {s s' : Shared}
/-- told of: as a callee finds it -/
theorem env_add {H : Hp} {cl : List (Addr × Obj)} (e0 : Env0 P w K mg base A outer s H) (C : CellsIn cl base (frs outer) s.heap) (n : ∀ c o, cl.lookup c = some o → H c = none) : Env0 P w K mg base A outer s (addC H cl) := by
  refine ⟨e0.frames, e0.mod, fun b o hb => ⟨(e0.bs b o hb).1, ?_⟩, e0.bsz, e0.funs, fun b hb => ?_, hok_add e0.hok fun c o q => ⟨n c o q, (C.at_ c o q).1⟩, e0.bare⟩
  · cases r : cl.lookup b with
    | some u => rw [(C.at_ b u r).2.1] at hb; cases hb
    | none => rw [addC_out r]; exact (e0.bs b o hb).2
  · cases r : cl.lookup b with
    | some u => exact absurd hb (C.at_ b u r).2.2
    | none => rw [addC_out r]; exact e0.frf b hb
/-- untold of: as the frame that has the cells finds it -/
theorem env_del {H : Hp} {cl : List (Addr × Obj)} (e0 : Env0 P w K mg base A outer s H) (n : ∀ c o, cl.lookup c = some o → H c = some (cellF o)) : Env0 P w K mg base A outer s (delC H cl) := by
  refine ⟨e0.frames, e0.mod, fun b o hb => ⟨(e0.bs b o hb).1, ?_⟩, e0.bsz, e0.funs, fun b hb => ?_, hok_del e0.hok n, e0.bare⟩
  · cases r : cl.lookup b with
    | some u => exact delC_in r
    | none => rw [delC_out r]; exact (e0.bs b o hb).2
  · cases r : cl.lookup b with
    | some u => exact delC_in r
    | none => rw [delC_out r]; exact e0.frf b hb
theorem un_del {fs : List Addr} {H H' : Hp} {h h' : Heap} {cl : List (Addr × Obj)} (u : Un fs [] (addC H cl) H' h h') (hk : HOk P w H' h') (n : ∀ c o, cl.lookup c = some o → H c = none ∧ h.get? c = some o ∧ c ∉ fs) : Un fs [] H (delC H' cl) h h' := by
  have told : ∀ c o, cl.lookup c = some o → H' c = some (cellF o) := fun c o q => u.frzs c o _ (addC_in q)
  have out : ∀ {b : Addr} {o : HO}, H b = some o → cl.lookup b = none := fun {b o} hb => by
    cases r : cl.lookup b with
    | some v => rw [(n b v r).1] at hb; cases hb
    | none => rfl
  refine ⟨fun b o hb nb hf hx => ?_, fun b o hb nb hf hx => ?_, fun b o hb nb hx => ?_, fun b o hb hx => u.there b o hb hx, fun b xs hb => ?_, fun b o v hb => ?_, fun b ps hb => ?_⟩
  · cases r : cl.lookup b with
    | some v =>
      rw [(n b v r).2.1] at hb
      cases hb
      exact (hk b _ (told b _ r)).1
    | none => exact u.keep b o hb (by rw [addC_out r]; exact nb) hf hx
  · cases r : cl.lookup b with
    | some v => exact absurd hf (n b v r).2.2
    | none => exact u.slot b o hb (by rw [addC_out r]; exact nb) hf hx
  · cases r : cl.lookup b with
    | some v => exact delC_in r
    | none => rw [delC_out r]; exact u.free b o hb (by rw [addC_out r]; exact nb) hx
  · rw [delC_out (out hb)]
    exact u.tups b xs (by rw [addC_out (out hb)]; exact hb)
  · rw [delC_out (out hb)]
    exact u.frzs b o v (by rw [addC_out (out hb)]; exact hb)
  · obtain ⟨more, q⟩ := u.tbls b ps (by rw [addC_out (out hb)]; exact hb)
    exact ⟨more, by rw [delC_out (out hb)]; exact q⟩
/-- back from a callee that was told of the cells -/
theorem ce_del {H : Hp} {cl : List (Addr × Obj)} {Q : VK} {u : Value} (C : CellsIn cl base (frs outer) s.heap) (n : ∀ c o, cl.lookup c = some o → H c = none) (h : CE outer P w (addC H cl) s (fun v H' => (∀ c o, cl.lookup c = some o → H' c = some (cellF o)) → Q v (delC H' cl)) u s') : CE outer P w H s Q u s' := by
  obtain ⟨v, H', h1, h2, un, hk, r, q⟩ := h
  have told : ∀ c o, cl.lookup c = some o → H' c = some (cellF o) := fun c o e => un.frzs c o _ (addC_in e)
  exact ⟨v, delC H' cl, h1, h2, un_del un hk (fun c o e => ⟨n c o e, (C.at_ c o e).1, (C.at_ c o e).2.2⟩), hok_del hk told, r, q told⟩
theorem un_add {fs : List Addr} {H H' : Hp} {h h' : Heap} {cl : List (Addr × Obj)} (u : Un fs [] (delC H cl) H' h h') (n : ∀ c o, cl.lookup c = some o → H c = some (cellF o) ∧ h.get? c = some o ∧ c ∉ fs) : Un fs [] H (addC H' cl) h h' := by
  have frz : ∀ {b : Addr} {o : HO}, H b = some o → (∀ a v, o ≠ .frz a v) → cl.lookup b = none := fun {b o} hb nf => by
    cases r : cl.lookup b with
    | some v =>
      rw [(n b v r).1] at hb
      cases hb
      exact absurd rfl (nf _ _)
    | none => rfl
  refine ⟨fun b o hb nb hf hx => ?_, fun b o hb nb hf hx => ?_, fun b o hb nb hx => ?_, fun b o hb hx => u.there b o hb hx, fun b xs hb => ?_, fun b o v hb => ?_, fun b ps hb => ?_⟩
  · cases r : cl.lookup b with
    | some v => rw [(n b v r).1] at nb; cases nb
    | none => exact u.keep b o hb (by rw [delC_out r]; exact nb) hf hx
  · cases r : cl.lookup b with
    | some v => rw [(n b v r).1] at nb; cases nb
    | none => exact u.slot b o hb (by rw [delC_out r]; exact nb) hf hx
  · cases r : cl.lookup b with
    | some v => rw [(n b v r).1] at nb; cases nb
    | none => rw [addC_out r]; exact u.free b o hb (by rw [delC_out r]; exact nb) hx
  · have r := frz hb fun a v z => by cases z
    rw [addC_out r]
    exact u.tups b xs (by rw [delC_out r]; exact hb)
  · cases r : cl.lookup b with
    | some q =>
      rw [(n b q r).1] at hb
      rw [addC_in r]
      exact hb
    | none =>
      rw [addC_out r]
      exact u.frzs b o v (by rw [delC_out r]; exact hb)
  · have r := frz hb fun a v z => by cases z
    obtain ⟨more, q⟩ := u.tbls b ps (by rw [delC_out r]; exact hb)
    exact ⟨more, by rw [addC_out r]; exact q⟩
/-- behind the frame that has the cells: they are told of again -/
theorem ce_add {H : Hp} {cl : List (Addr × Obj)} {Q : VK} {u : Value} (hk0 : HOk P w H s.heap) (n : ∀ c o, cl.lookup c = some o → H c = some (cellF o) ∧ c ∉ frs outer) (h : CE outer P w (delC H cl) s (fun v H' => (∀ c o, cl.lookup c = some o → H' c = none) → Q v (addC H' cl)) u s') : CE outer P w H s Q u s' := by
  obtain ⟨v, H', h1, h2, un, hk, r, q⟩ := h
  have at0 : ∀ c o, cl.lookup c = some o → s.heap.get? c = some o := fun c o e => (hk0 c _ (n c o e).1).1
  refine ⟨v, addC H' cl, h1, h2, un_add un fun c o e => ⟨(n c o e).1, at0 c o e, (n c o e).2⟩, hok_add hk fun c o e => ?_, r, q fun c o e => un.free c o (at0 c o e) (delC_in e) (by simp)⟩
  exact ⟨un.free c o (at0 c o e) (delC_in e) (by simp), un.keep c o (at0 c o e) (delC_in e) (n c o e).2 (by simp)⟩
theorem cx_add {H : Hp} {cl : List (Addr × Obj)} {E : XK} {u : Value} (hk0 : HOk P w H s.heap) (n : ∀ c o, cl.lookup c = some o → H c = some (cellF o) ∧ c ∉ frs outer) (h : L2.CX P w outer (delC H cl) s (fun cls d H' => (∀ c o, cl.lookup c = some o → H' c = none) → E cls d (addC H' cl)) u s') : L2.CX P w outer H s E u s' := by
  obtain ⟨a, B, H', cls, d, e1, fly, hk, ub, na, h1, h2, q⟩ := h
  have at0 : ∀ c o, cl.lookup c = some o → s.heap.get? c = some o := fun c o e => (hk0 c _ (n c o e).1).1
  have atB : ∀ c o, cl.lookup c = some o → B.get? c = some o := fun c o e => ub.keep c o (at0 c o e) (delC_in e) (n c o e).2
  have frz : ∀ {b : Addr} {o : HO}, H b = some o → (∀ a v, o ≠ .frz a v) → cl.lookup b = none := fun {b o} hb nf => by
    cases r : cl.lookup b with
    | some v =>
      rw [(n b v r).1] at hb
      cases hb
      exact absurd rfl (nf _ _)
    | none => rfl
  refine ⟨a, B, addC H' cl, cls, d, e1, fly, hok_add hk fun c o e => ⟨ub.free c o (at0 c o e) (delC_in e), atB c o e⟩, ⟨fun b o hb nb hf => ?_, ub.slot, fun b o hb nb => ?_, ub.there, fun b xs hb => ?_, fun b o v hb => ?_, fun b ps hb => ?_⟩, ?_, h1, h2, q fun c o e => ub.free c o (at0 c o e) (delC_in e)⟩
  · cases r : cl.lookup b with
    | some v => rw [(n b v r).1] at nb; cases nb
    | none => exact ub.keep b o hb (by rw [delC_out r]; exact nb) hf
  · cases r : cl.lookup b with
    | some v => rw [(n b v r).1] at nb; cases nb
    | none => rw [addC_out r]; exact ub.free b o hb (by rw [delC_out r]; exact nb)
  · have r := frz hb fun a v z => by cases z
    rw [addC_out r]
    exact ub.tups b xs (by rw [delC_out r]; exact hb)
  · cases r : cl.lookup b with
    | some q =>
      rw [(n b q r).1] at hb
      rw [addC_in r]
      exact hb
    | none =>
      rw [addC_out r]
      exact ub.frzs b o v (by rw [delC_out r]; exact hb)
  · have r := frz hb fun a v z => by cases z
    obtain ⟨more, q⟩ := ub.tbls b ps (by rw [delC_out r]; exact hb)
    exact ⟨more, by rw [addC_out r]; exact q⟩
  · cases r : cl.lookup a with
    | some v =>
      have z := fly.2.1
      rw [atB a v r] at z
      cases z
    | none => rw [addC_out r]; exact na
end
end TG
namespace TG
open PySem PySem.Spec PyProof.Rows L2 NdefX GenW Gx Lv
/-- the captured names' cells, told of, hold these values -/
structure Caught (F : NF) (fr : List Str) (ws : List (Option V)) (cl : List (Addr × Obj)) (H : Hp) : Prop where
  len : ws.length = fr.length
  told : ∀ c o, cl.lookup c = some o → H c = some (cellF o)
  all : ∀ y c, F.cl.lookup y = some c → ∃ o v, cl.lookup c = some o ∧ o.data = .cell v
  inj : ∀ x y c, F.cl.lookup x = some c → F.cl.lookup y = some c → x = y
  has : ∀ (i : Nat) (y : Str), fr[i]? = some y → ∃ c, F.cl.lookup y = some c ∧ ∀ v, ws[i]? = some (some v) → ∃ o u, cl.lookup c = some o ∧ o.data = .cell (some u) ∧ RelV v u
section
variable {P : Program} {w : World} {K : PySem.W.Frag} {mg : Str → Option Value} {base : Heap}
structure LOkX (P : Program) (w : World) (K : PySem.W.Frag) (mg : Str → Option Value) (base : Heap) (k : Nat) (f : Addr) (F : NF) (e : Expr) (sp : Sp) : Prop where
  run : ∀ (A : Around) (outer : List Env) (s : Shared) (H : Hp) (Q : VK) (E : XK), Room k A → Env0 P w K mg base A outer s H → H f = some (FnL f F e) → H F.c = some (LamX.CodeO F.c F.qual) → sp [] H Q E →
    codeAny (model P w) A (.call (.ref f) ⟨[], []⟩) (CR (L2.CX P w) outer P w H s Q E) s
theorem lokx_of {k : Nat} {f : Addr} {F : NF} {e : Expr} {N fr : List Str} {sp : Sp} (S : NScope N [] fr F.scope) (hb : ∀ (pm ctv : Value), bindArgs (PySem.W.kla_fn F.name F.qual F.params e F.scope F.cl pm (.ref F.c) ctv) ⟨[], []⟩ = pure [])
    (hbody : ∀ (A : Around) (outer : List Env) (s : Shared) (H : Hp) (Q : VK) (E : XK), Room k (A.deeper (envF F f s.heap.objs.size)) → sp [] H Q E → ∃ (ws : List (Option V)) (cl : List (Addr × Obj)) (t : TE), Caught F fr ws cl H ∧
      PE (ncx (L2.CX P w) P w K mg base N F f A outer s (delC H cl) (fun cls d H' => (∀ c o, cl.lookup c = some o → H' c = none) → E cls d (addC H' cl))) e t ∧ t (startF N [] ws) (delC H cl) (fun v H' => (∀ c o, cl.lookup c = some o → H' c = none) → Q v (addC H' cl))) :
    LOkX P w K mg base (k + 1) f F e sp := by
  refine ⟨fun A outer s H Q E hr e0 hf hc hsp => ?_⟩
  have lim : s.heap.NoLimit := e0.mod.nolimit.keeps fun b o q => (e0.bs b o q).1
  obtain ⟨od, sl, pm, ctv, ho⟩ := fnL_at e0.hok hf
  obtain ⟨ws, cl, t, C, ht, hq⟩ := hbody A outer s H Q E (hr.deeper _) hsp
  have hnf : ∀ c o, cl.lookup c = some o → c ∉ frs outer := fun c o q hb => by
    have z := e0.frf c hb
    rw [C.told c o q] at z
    cases z
  have at0 : ∀ c o, cl.lookup c = some o → s.heap.get? c = some o := fun c o q => (e0.hok c _ (C.told c o q)).1
  refine codeAny_mono (R := CR (L2.CX P w) outer P w (delC H cl) s (fun v H' => (∀ c o, cl.lookup c = some o → H' c = none) → Q v (addC H' cl)) (fun cls d H' => (∀ c o, cl.lookup c = some o → H' c = none) → E cls d (addC H' cl))) ?_ fun r s' q => ?_
  · have e1 := env_del e0 C.told
    refine PySem.W.kla_callFunE hr.depth ho rfl S.co S.gen rfl (codeO_at e0.hok hc) ?_
    rw [hb pm ctv]
    refine wpAny_pure (wpAny_newFunctionEnv S.nocell (fun ⟨n, _⟩ hy => by cases hy) (fun h₁ hns hsb => ⟨lim.fresh _ hsb, ?_⟩) S.kind)
    have kp : ∀ b o, s.heap.get? b = some o → h₁.get? b = some o := fun b o q => hsb.extBut b o (Nat.ne_of_lt (Heap.lt_size q)) (Heap.get?_push_of_some _ q)
    have CA : NdefX.CellsAt F.cl fr ws s.heap (delC H cl) := by
      refine ⟨C.len, fun y c q => ?_, C.inj, fun i y q => ?_⟩
      · obtain ⟨o, v, h1, h2⟩ := C.all y c q
        exact ⟨delC_in h1, v, o, at0 c o h1, h2⟩
      · obtain ⟨c, h1, h2⟩ := C.has i y q
        refine ⟨c, h1, fun v hv => ?_⟩
        obtain ⟨o, u, h3, h4, h5⟩ := h2 v hv
        exact ⟨u, h5, o, at0 c o h3, h4⟩
    have I := inv_startN (CX := L2.CX P w) (P := P) (w := w) (E := fun cls d H' => (∀ c o, cl.lookup c = some o → H' c = none) → E cls d (addC H' cl)) (f := f) (tk := s.toks + (([] : List Str).zip ([] : List Value)).length) S hr.hd e1 (vs := []) (us := []) rfl .nil CA hns kp
    refine PySem.W.kla_codeExpr (wpAny_mono (ht.run [] _ (startF N [] ws) (delC H cl) _ I hq) (fun v s' q => ?_) fun e' s' q => q)
    obtain ⟨w', H', J, rv, q⟩ := q
    exact ⟨w', H', J.os, J.bare, J.base, J.hok, rv, q⟩
  · cases r with
    | error er => exact cx_add e0.hok (fun c o q => ⟨C.told c o q, hnf c o q⟩) q
    | ok fl =>
      cases fl with
      | ret u => exact ce_add e0.hok (fun c o q => ⟨C.told c o q, hnf c o q⟩) q
      | next => exact False.elim q
      | brk => exact False.elim q
      | cont => exact False.elim q
end
end TG
namespace TG
open PySem PySem.Spec PyProof.Rows L2 NdefX GenW Gx Lv
structure ToldC (cells : List (Str × Addr)) (N names : List Str) (σ : L2.St) (cl : List (Addr × Obj)) : Prop where
  all : ∀ y ∈ names, ∃ c o v, cells.lookup y = some c ∧ cl.lookup c = some o ∧ o.data = .cell v
  val : ∀ y ∈ names, ∀ c o, cells.lookup y = some c → cl.lookup c = some o → ∀ (i : Nat) (v : V), N[i]? = some y → σ[i]? = some (some v) → ∃ u, o.data = .cell (some u) ∧ RelV v u
  inj : ∀ y z c, cells.lookup y = some c → cells.lookup z = some c → y = z
theorem cells_list {h : Heap} {cells : List (Str × Addr)} : ∀ names : List Str, (∀ y ∈ names, ∃ c v, cells.lookup y = some c ∧ h.IsCell c v) →
    ∃ cl : List (Addr × Obj), (∀ c o, cl.lookup c = some o → h.get? c = some o ∧ ∃ y ∈ names, cells.lookup y = some c) ∧ ∀ y ∈ names, ∀ c, cells.lookup y = some c → ∃ o, cl.lookup c = some o
  | [], _ => ⟨[], ⟨fun c o e => by simp at e, fun y hy => by simp at hy⟩⟩
  | y :: names, k => by
    obtain ⟨cl, h1, h2⟩ := cells_list names fun z hz => k z (List.mem_cons_of_mem _ hz)
    obtain ⟨c, v, e1, o, e2, _⟩ := k y List.mem_cons_self
    refine ⟨(c, o) :: cl, fun c' o' e => ?_, fun z hz c' e => ?_⟩
    · rw [List.lookup_cons] at e
      by_cases q : c' = c
      · rw [q, beq_self_eq_true] at e
        cases e
        rw [q]
        exact ⟨e2, y, List.mem_cons_self, e1⟩
      · rw [beq_false_of_ne q] at e
        obtain ⟨g1, z, hz, g2⟩ := h1 c' o' e
        exact ⟨g1, z, List.mem_cons_of_mem _ hz, g2⟩
    · rw [List.lookup_cons]
      by_cases q : c' = c
      · rw [q, beq_self_eq_true]
        exact ⟨o, rfl⟩
      · rw [beq_false_of_ne q]
        rcases List.mem_cons.mp hz with r | r
        · rw [r, e1] at e
          exact absurd (Option.some.inj e).symm q
        · exact h2 z r c' e
def tCallC (cells : List (Str × Addr)) (N names : List Str) (sp : Sp) (t : TA) : TE := fun σ H Q => t σ H fun vs H1 => ∀ cl : List (Addr × Obj), ToldC cells N names σ cl → (∀ c o, cl.lookup c = some o → H1 c = none) →
  sp vs (addC H1 cl) (fun v H' => (∀ c o, cl.lookup c = some o → H' c = some (cellF o)) → Q v (delC H' cl)) (fun _ _ _ => False)
theorem pe_callC {X : Cx} {names : List Str} {k : Nat} {f : Addr} {fd : FuncData} {ps : List Str} {sp : Sp} {x : Str} {p pos : Pos} {e : Expr} {es : List Expr} {t : TA} (F : FnOk X.prog X.w X.K X.mg X.base CX0 k f fd ps sp) (hr : Room k X.A) (hg : Gl X x) (hm : X.mg x = some (.ref f)) (hk : PySem.W.keepIn X.K (.ref f) = true) (hb : Binds X.K fd ps [])
    (hfn : ∀ y ∈ names, X.fn y = true) (hcell : ∀ y ∈ names, X.env.kindOf y = some .cell) (ha : PA X (e :: es) t) (hdb : (x == ("__debug__" : Str)) = false := by decide) (he : starEach (e :: es) X.env = (false, eval e X.env) :: starEach es X.env := by rfl) (hpl : (backTo pos (starEach es X.env)).any (·.1) = false := by rfl) :
    PE X (.Call (.Name x p) (e :: es) [] pos) (tCallC X.env.cells X.N names sp t) := by
  refine ⟨fun pins s σ H Q I h => ?_⟩
  refine wpAny_Call_Name_kw (ld_glob I hg hm ?_ hdb)
  refine PySem.W.callWith_K (h₀ := X.base) I.ok.mod.kin hk (thn (ha.run pos pins s σ H _ I h) fun us s1 ⟨vs, H1, I1, r, q⟩ => ⟨I1.kIn, ?_⟩) he hpl
  show wpAny _ _ (call (.ref f) us) _ _ _
  have has : ∀ y ∈ names, ∃ c v, X.env.cells.lookup y = some c ∧ s1.heap.IsCell c v := fun y hy => by
    obtain ⟨c, hc⟩ := I1.ok.has y (.inl (hcell y hy))
    obtain ⟨v, hv⟩ := I1.cell y c hc
    exact ⟨c, v, hc, hv⟩
  obtain ⟨cl, c1, c2⟩ := cells_list names has
  have un : ∀ c o, cl.lookup c = some o → H1 c = none := fun c o e => by
    obtain ⟨_, y, _, hc⟩ := c1 c o e
    exact I1.freeC y c hc
  have C : CellsIn cl X.base (frs X.stack) s1.heap := ⟨fun c o e => by
    obtain ⟨g1, y, hy, hc⟩ := c1 c o e
    have ge := I1.ok.cab y c (hfn y hy) hc
    refine ⟨g1, ?_, fun hin => ?_⟩
    · cases z : X.base.get? c with
      | none => rfl
      | some u => exact absurd (Nat.lt_of_lt_of_le (Heap.lt_size (I1.ok.bs c u z).1) ge) (Nat.lt_irrefl _)
    · rcases List.mem_cons.mp (I1.stkSub c hin) with z | z
      · obtain ⟨m, hn, _⟩ := I1.loc
        obtain ⟨v, o2, q1, q2⟩ := I1.cell y c hc
        rw [z] at q1
        obtain ⟨o3, es3, ep3, q3, q4, _⟩ := hn
        rw [q1] at q3
        cases q3
        rw [q2] at q4
        cases q4
      · obtain ⟨_, o2, q1, _⟩ := I1.ok.funs.mem z
        exact absurd (Nat.lt_of_lt_of_le (Heap.lt_size q1) ge) (Nat.lt_irrefl _)⟩
  have T : ToldC X.env.cells X.N names σ cl := by
    refine ⟨fun y hy => ?_, fun y hy c o hc ho i v hN hs => ?_, I1.ok.inj⟩
    · obtain ⟨c, hc⟩ := I1.ok.has y (.inl (hcell y hy))
      obtain ⟨v, o2, q1, q2⟩ := I1.cell y c hc
      obtain ⟨o, ho⟩ := c2 y hy c hc
      have z := (c1 c o ho).1
      rw [q1] at z
      cases z
      exact ⟨c, _, v, hc, ho, q2⟩
    · obtain ⟨m, hn, loc⟩ := I1.loc
      obtain ⟨u, ru, lk⟩ := loc i y v hN hs (.inr (.inl (hcell y hy)))
      rcases lk with ⟨z, _⟩ | ⟨_, c', hc', o2, q1, q2⟩
      · rw [hcell y hy] at z; cases z
      · rw [hc] at hc'
        cases hc'
        have z := (c1 c o ho).1
        rw [q1] at z
        cases z
        exact ⟨u, q2, ru⟩
  have sq := q cl T un
  have hl : (us ++ []).length = ps.length := by rw [List.append_nil, ← r.length]; exact F.len _ _ _ _ sq
  have e1 := env_add I1.env0 C un
  have bd := hb s1 us I1.kIn hl
  rw [List.append_nil] at bd
  refine wpAny_call (codeAny_mono (F.run X.A X.stack s1 (addC H1 cl) ⟨us, []⟩ us vs _ _ hr e1 bd r sq) fun r' s' hq => ?_)
  cases r' with
  | error er => exact False.elim hq
  | ok fl =>
    cases fl with
    | ret u => exact I1.after (ce_del C un hq)
    | next => exact False.elim hq
    | brk => exact False.elim hq
    | cont => exact False.elim hq
end TG
namespace TG
open PySem PySem.Spec PyProof.Rows L2 NdefX GenW Gx Lv
/-- the reading of a lambda that captures cells of the frame -/
def tLamC (P : Addr) (q : Str) (params : Arguments) (body : Expr) (scope : Scope) (cl : List (Str × Addr)) : TE := fun _ H Q => LamX.TabS H P q ∧ ∀ (f c' : Addr) (H1 : Hp), (∀ b o, H b = some o → b ≠ P → H1 b = some o) → (∀ b, H1 b = none → H b = none) → LamX.TabS H1 P q → H f = none →
  H1 f = some (FnL f ⟨"<lambda>", q, params, [], scope, cl, c'⟩ body) → H1 c' = some (LamX.CodeO c' q) → Q (.ref f) H1
theorem pe_lamC {X : Cx} {c P : Addr} {params : Arguments} {body : Expr} {scope : Scope} {pos : Pos} (B : LamX.TabB X.base X.mg c P) (hcode : X.env.code = .ref c) (hdef : defaultsOf params X.env = ([], []))
    (hfr : ∀ y ∈ scope.names, y.2 = .free → X.env.kindOf y.1 = some .cell ∨ X.env.kindOf y.1 = some .free) :
    PE X (.Lambda params body scope pos) (tLamC P (X.env.qual ++ "<lambda>") params body scope (cloFrom X.env.cells scope.names [])) := by
  refine ⟨fun pins s σ H Q I h => ?_⟩
  obtain ⟨hT, h⟩ := h
  exact lam_val I B hcode hT hdef (fun y hy e => I.ok.has _ (hfr y hy e)) fun f c' H1 s' J k1 k2 t1 nf hf hc => ⟨.ref f, H1, J, rfl, h f c' H1 k1 k2 t1 nf hf hc⟩
end TG

namespace TG
open PySem PySem.Spec PyProof.Rows L2 Gx
theorem fold_one (c : Nat) : ∀ (n : Nat) (acc : Array Nat), (List.replicate n (#[c] : Array Nat)).foldl (fun a b => a ++ b) acc = acc ++ (List.replicate n c).toArray
  | 0, acc => by simp
  | n + 1, acc => by
    rw [List.replicate_succ, List.foldl_cons, fold_one c n]
    apply Array.toList_inj.mp
    simp [List.replicate_succ]
def repS (c : Nat) (n : Nat) : Str := ⟨(List.replicate n c).toArray⟩
theorem cl_repS (c n : Nat) : cl (repS c n) = List.replicate n c := by simp [cl, repS]
section
variable {X : Cx}
def rRepS : V → V → Hp → VK → Prop := fun x y H Q => ∃ (c : Nat) (n : Int), x = .str ⟨#[c]⟩ ∧ y = .int n ∧ 0 ≤ n ∧ n ≤ 1000 ∧ Q (.str (repS c n.toNat)) H
theorem op_repS : OpR X (binaryOp .Mult) rRepS := by
  intro pins s σ H x y v u Q I rx ry h
  obtain ⟨c, n, rfl, rfl, h0, h1, q⟩ := h
  obtain ⟨t, rfl⟩ := rx
  obtain ⟨t', rfl⟩ := ry
  have hs : ((⟨#[c]⟩ : Str).length) = 1 := rfl
  refine PySem.P.mul_str ?_ (fun _ _ => ?_) (fun _ _ => ?_) ?_
  · rw [decide_eq_false (by omega), decide_eq_false (by omega)]
    rfl
  · rw [hs]
    have : (1 : Int) ≤ (2 ^ 63 - 1) / n := Int.le_ediv_of_mul_le (by omega) (by omega)
    omega
  · rw [hs, Nat.one_mul]
    have sz : (1000 : Nat) < sizeLine := by decide
    exact decide_eq_false (by omega)
  · by_cases e : n < 1
    · rw [if_pos e]
      have e0 : n = 0 := by omega
      subst e0
      exact ⟨by decide, .str (repS c (0 : Int).toNat), H, I.tok _, ⟨_, rfl⟩, q⟩
    · rw [if_neg e]
      by_cases e1 : n = 1
      · subst e1
        rw [if_pos (by rfl)]
        exact (⟨.str (repS c (1 : Int).toNat), H, I, ⟨_, rfl⟩, q⟩ : EP X pins σ Q _ _)
      · rw [if_neg (by rw [hs]; simp [e1])]
        have hf : (⟨(List.replicate n.toNat (#[c] : Array Nat)).foldl (· ++ ·) #[]⟩ : Str) = repS c n.toNat := by
          unfold repS
          rw [fold_one]
          simp
        show Made.post (.str ⟨(List.replicate n.toNat (#[c] : Array Nat)).foldl (· ++ ·) #[]⟩) _ _
        rw [hf]
        have sz : (1000 : Nat) < sizeLine := by decide
        have hl : (repS c n.toNat).length = n.toNat := by unfold repS; simp [Str.length]
        exact ⟨by omega, .str (repS c n.toNat), H, I.tok _, ⟨_, rfl⟩, q⟩
end
end TG

namespace TG
open PySem PySem.Spec PyProof.Rows L2 Gx
/-! ### texts of pages -/
abbrev tabS : Str := "\t"
abbrev lineS : Str := "\n"
def rowT (r : List Str) : Str := Txt.join tabS r
def pageT (rows : List (List Str)) : Str := Txt.join lineS (rows.map rowT)
theorem cl_tabS : cl tabS = [9] := by decide +kernel
theorem cl_lineS : cl lineS = [10] := by decide +kernel
theorem cl_joinL (y : Str) (ps : List Str) : cl (Txt.join y ps) = TL.joinL (cl y) (ps.map cl) := by
  rw [TL.join_eq]
  exact TL.tl_join y ps
theorem joinL_mem (S : List Nat) : ∀ (ps : List (List Nat)) (c : Nat), c ∈ TL.joinL S ps → c ∈ S ∨ ∃ p ∈ ps, c ∈ p
  | [], c, h => by cases h
  | [p], c, h => .inr ⟨p, by simp, h⟩
  | p :: q :: r, c, h => by
    have h : c ∈ p ++ (S ++ TL.joinL S (q :: r)) := h
    rcases List.mem_append.mp h with h | h
    · exact .inr ⟨p, by simp, h⟩
    rcases List.mem_append.mp h with h | h
    · exact .inl h
    rcases joinL_mem S (q :: r) c h with h | ⟨x, hx, hc⟩
    · exact .inl h
    · exact .inr ⟨x, by simp at hx ⊢; exact .inr hx, hc⟩
theorem joinL_len (S : List Nat) (m : Nat) : ∀ (ps : List (List Nat)), (∀ p ∈ ps, p.length ≤ m) → (TL.joinL S ps).length ≤ ps.length * (m + S.length)
  | [], _ => Nat.zero_le _
  | [p], h => by
    have := h p (by simp)
    show p.length ≤ 1 * (m + S.length)
    omega
  | p :: q :: r, h => by
    have h1 := h p (by simp)
    have h2 := joinL_len S m (q :: r) fun x hx => h x (by simp at hx ⊢; exact .inr hx)
    show (p ++ (S ++ TL.joinL S (q :: r))).length ≤ ((q :: r).length + 1) * (m + S.length)
    rw [List.length_append, List.length_append, Nat.add_mul]
    omega
theorem rowT_sg {r : List Str} (h : RowOk r) : ∀ c ∈ cl (rowT r), c = 9 ∨ SgOk c := by
  intro c hc
  unfold rowT at hc
  rw [cl_joinL, cl_tabS] at hc
  rcases joinL_mem _ _ _ hc with h1 | ⟨p, hp, h1⟩
  · exact .inl (by simpa using h1)
  · obtain ⟨z, hz, rfl⟩ := List.mem_map.mp hp
    exact .inr ((h.3 z hz).2 c h1)
theorem rowT_len {r : List Str} (h : RowOk r) : (rowT r).length ≤ 66 := by
  rw [len_cl]
  unfold rowT
  rw [cl_joinL]
  have := joinL_len (cl tabS) 10 (r.map cl) fun p hp => by
    obtain ⟨z, hz, rfl⟩ := List.mem_map.mp hp
    have := (h.3 z hz).1
    rw [← len_cl]
    exact this
  rw [List.length_map, cl_tabS, show ([9] : List Nat).length = 1 from rfl] at this
  rw [cl_tabS]
  have := h.2
  omega
theorem pageT_len {rows : List (List Str)} (h : PgOk rows) : (pageT rows).length ≤ 2010 := by
  rw [len_cl]
  unfold pageT
  rw [cl_joinL]
  have := joinL_len (cl lineS) 66 ((rows.map rowT).map cl) fun p hp => by
    obtain ⟨z, hz, rfl⟩ := List.mem_map.mp hp
    obtain ⟨r, hr, rfl⟩ := List.mem_map.mp hz
    rw [← len_cl]
    exact rowT_len (h.rows r hr)
  rw [List.length_map, List.length_map, cl_lineS, show ([10] : List Nat).length = 1 from rfl] at this
  rw [cl_lineS]
  have := h.len
  omega
theorem split_row {r : List Str} (h : RowOk r) : Txt.split (rowT r) tabS = r := by
  refine TL.split_join (s := 9) (S := []) cl_tabS (by decide +kernel) ?_ fun p hp q => ?_
  · intro e
    have := h.1
    rw [e] at this
    simp at this
  · have q : 9 ∈ cl p := q
    have := (h.3 p hp).2 9 q
    unfold SgOk at this
    omega
theorem split_page {rows : List (List Str)} (h : PgOk rows) : Txt.split (pageT rows) lineS = rows.map rowT := by
  refine TL.split_join (s := 10) (S := []) cl_lineS (by decide +kernel) ?_ fun p hp q => ?_
  · intro e
    have := h.pos
    have e2 := congrArg List.length e
    rw [List.length_map] at e2
    simp at e2
    rw [e2] at this
    simp at this
  · obtain ⟨r, hr, rfl⟩ := List.mem_map.mp hp
    have q : 10 ∈ cl (rowT r) := q
    rcases rowT_sg (h.rows r hr) 10 q with e | e
    · omega
    · unfold SgOk at e
      omega
theorem kind_min1 (y : Str) (hy : Builtin.Str.strKind y = 1) (x : Str) : ¬ Builtin.Str.strKind x < Builtin.Str.strKind y := by
  rw [hy]
  unfold Builtin.Str.strKind
  split
  · decide
  · split <;> decide
theorem splLenT (S : List Nat) : ∀ (l acc : List Nat) (k : Nat) (p : List Nat), p ∈ TL.spl S k acc l → p.length ≤ acc.length + l.length
  | [], acc, k, p, h => by
    unfold TL.spl at h
    rw [List.mem_singleton] at h
    rw [h]
    exact Nat.le_add_right _ _
  | c :: r, acc, 0, p, h => by
    unfold TL.spl at h
    rw [List.length_cons]
    split at h
    · rcases List.mem_cons.mp h with z | z
      · rw [z]; omega
      · have := splLenT S r [] _ p z
        simp at this
        omega
    · have := splLenT S r _ _ p h
      rw [List.length_append, List.length_singleton] at this
      omega
  | c :: r, acc, k + 1, p, h => by
    unfold TL.spl at h
    have := splLenT S r _ _ p h
    rw [List.length_cons]
    omega
theorem split_clL (z y : Str) (h0 : cl y ≠ []) (hy : Builtin.Str.strKind y = 1) : (Txt.split z y).map cl = TL.spl (cl y) 0 [] (cl z) :=
  TL.split_spl z y h0 (kind_min1 y hy z)
theorem split_pieceL {z y p : Str} (h0 : cl y ≠ []) (hy : Builtin.Str.strKind y = 1) (h : p ∈ Txt.split z y) : p.length ≤ z.length := by
  have h2 : cl p ∈ TL.spl (cl y) 0 [] (cl z) := by rw [← split_clL z y h0 hy]; exact List.mem_map_of_mem h
  have := splLenT (cl y) _ _ _ _ h2
  simpa [cl, Str.length] using this
theorem kind_line : Builtin.Str.strKind lineS = 1 := by decide +kernel
theorem kind_tab : Builtin.Str.strKind tabS = 1 := by decide +kernel
/-- the rows of a text -/
def rowsT (z : Str) : List (List Str) := (Txt.split z lineS).map fun l => Txt.split l tabS
theorem rowsT_page {rows : List (List Str)} (h : PgOk rows) : rowsT (pageT rows) = rows := by
  unfold rowsT
  rw [split_page h, List.map_map]
  conv => rhs; rw [← List.map_id rows]
  apply List.map_congr_left
  intro r hr
  exact split_row (h.rows r hr)
structure RowsAt (ps : List Addr) (rows : List (List Str)) (H : Hp) : Prop where
  len : ps.length = rows.length
  row : ∀ (i : Nat) (q : Addr) (z : List Str), ps[i]? = some q → rows[i]? = some z → H q = some (.tup (sV z))
def rTupT (K : PySem.W.Frag) : List V → Hp → VK → Prop := fun xs H Q => ∃ p ys, xs = [V.ref p] ∧ ((SqL K H p ys ∧ ∀ l, H l = none → Q (.ref l) (upd H l (.tup ys))) ∨ (SqT K H p ys ∧ Q (.ref p) H))
def rJoin (K : PySem.W.Frag) : V → List V → Hp → VK → Prop := fun x xs H Q => ∃ a p, ∃ ys : List Str, x = .str a ∧ xs = [.ref p] ∧ (SqL K H p (ys.map V.str) ∨ SqT K H p (ys.map V.str)) ∧ (ys.map (·.length)).sum + ys.length * a.length ≤ 16777216 ∧ Q (.str (Txt.join a ys)) H
section
variable {P : Program} {w : World} {K : PySem.W.Frag} {mg : Str → Option Value} {base : Heap} {cs : List (Addr × Addr)}
def spRowsOf (cs : List (Addr × Addr)) : Sp := fun vs H Q _ => ∃ z : Str, vs = [.str z] ∧ Tabs cs H ∧ z.length ≤ 1000000 ∧
  ∀ (r : Addr) (ps : List Addr) (H' : Hp), Ex cs H H' → H r = none → H' r = some (.lst (ps.map V.ref)) → RowsAt ps (rowsT z) H' → Q (.ref r) H'
theorem sc_rowsof : FnScope ["text", "line"] ["text"] (defScope s_rows_of) := ⟨rfl, rfl, rfl, by decide +kernel, rfl, by decide +kernel, by decide +kernel⟩
theorem ok_rowsof {f : Addr} {fd : FuncData} (T : Txt mg) (eT : ∃ t, mg "TAB" = some (.str tabS t)) (eL : ∃ t, mg "LINE_END" = some (.str lineS t)) (F : Fun K "rows_of" "rows_of" s_rows_of f fd) : FnOk P w K mg base CX0 1 f fd ["text"] (spRowsOf cs) := by
  refine F.ok sc_rowsof (fun vs H Q E h => ?_) (fun cdv A outer s H vs Q E hr h => ?_)
  · obtain ⟨z, rfl, _⟩ := h
    rfl
  · obtain ⟨z, rfl, hT, hz2, k⟩ := h
    have nd := sc_rowsof.nd
    have szl : (10000000 : Nat) < sizeLine := by decide
    obtain ⟨tt, eT⟩ := eT
    obtain ⟨tl, eL⟩ := eL
    refine ⟨_, pss_one (ps_ret (pe_lc (own := [("line", 1)]) (g := gName 1) (tt := tYes) rfl nd (pi_list (pe_split (pv 0) (pe_glob (v := .str lineS) rfl eL ⟨_, rfl⟩))) (blkOk_by (own := [("line", 1)]) (N := ["text", "line"]) (sc := defScope s_rows_of) (by decide +kernel))
        (fun _ _ _ _ _ => pg_name (i := 1) nd rfl (Or.inl rfl)) (fun _ _ _ _ _ => pts_nil) (fun s1 H1 C1 cl1 fp1 => pe_callTy (T := "tuple") (r := rTupT K) call_tuple_of (by rfl) T.tuple (by decide +kernel) (pa_cons (pe_split (to := tVar 1) (te := tC (.str tabS)) (pv 1) (pe_glob (v := .str tabS) (by rfl) eT ⟨_, rfl⟩)) pa_nil)))), ?_⟩
    have hlen : (Txt.split z lineS).length ≤ 1000002 := Nat.le_trans (PyProof.Rows.split_le z _) (by omega)
    refine ⟨_, rfl, ⟨_, rfl⟩, _, _, rfl, rfl, by decide +kernel, by omega, fun p np => ?_⟩
    have x1 := Ex.laid (o := .lst ((Txt.split z lineS).map V.str)) hT np
    have hp1 : upd H p (.lst ((Txt.split z lineS).map V.str)) p = some (.lst (sV (Txt.split z lineS))) := upd_same
    generalize upd H p (.lst ((Txt.split z lineS).map V.str)) = H1 at x1 hp1 ⊢
    refine ⟨p, rfl, ⟨_, SqL.of hp1⟩, fun D nD => lc_list (xs := sV (Txt.split z lineS)) (fun i H' => Ex cs H1 H' ∧ ∃ ps : List Addr, H' D = some (.lst (ps.map V.ref)) ∧ ps.length = i ∧ ∀ (j : Nat) (q : Addr) (z' : Str), ps[j]? = some q → (Txt.split z lineS)[j]? = some z' → H' q = some (.tup (sV (Txt.split z' tabS))))
      ⟨Ex.laid x1.tab nD, [], upd_same, rfl, fun j q z h => by cases h⟩ (fun i H' _ x => x.1.sqL (SqL.of hp1)) ?_ ?_⟩
    · rintro i v H4 hv ⟨x4, ps, hD4, hpl, hps⟩
      obtain ⟨y, hy, rfl⟩ := get_map hv
      have hi := (List.getElem?_eq_some_iff.mp hy).1
      have hyl := split_pieceL (by rw [cl_lineS]; decide) kind_line (List.mem_of_getElem? hy)
      refine ⟨rfl, _, rfl, ⟨_, rfl⟩, _, _, rfl, rfl, by decide +kernel, by omega, fun u nu => ⟨u, _, rfl, .inl ⟨SqL.of upd_same, fun t nt => ?_⟩⟩⟩
      have x5 := x4.trans (Ex.laid (o := .lst ((Txt.split y tabS).map V.str)) x4.tab nu)
      have x6 := x5.trans (Ex.laid (o := .tup ((Txt.split y tabS).map V.str)) x5.tab nt)
      have x46 := (Ex.laid (o := .lst ((Txt.split y tabS).map V.str)) x4.tab nu).trans (Ex.laid (o := .tup ((Txt.split y tabS).map V.str)) x5.tab nt)
      have ht : upd (upd H4 u (.lst ((Txt.split y tabS).map V.str))) t (.tup ((Txt.split y tabS).map V.str)) t = some (.tup (sV (Txt.split y tabS))) := upd_same
      have nt4 : H4 t = none := (Ex.laid (o := .lst ((Txt.split y tabS).map V.str)) x4.tab nu).old _ nt
      generalize upd (upd H4 u (.lst ((Txt.split y tabS).map V.str))) t (.tup ((Txt.split y tabS).map V.str)) = H6 at x6 x46 ht ⊢
      have hD6 := x46.lst hD4
      have nDt : D ≠ t := fun e => by rw [e, nt4] at hD4; cases hD4
      refine ⟨_, hD6, by rw [List.length_map]; omega, ex_new x1.tab x6 nD, ps ++ [t], ?_, by rw [List.length_append, hpl]; rfl, fun j q z2 h1 h2 => ?_⟩
      · rw [upd_same, List.map_append]; rfl
      · by_cases hj : j < ps.length
        · rw [List.getElem?_append_left hj] at h1
          have h0 := x46.tup (hps j q z2 h1 h2)
          rw [upd_ne (fun e => by rw [e, hD6] at h0; cases h0)]
          exact h0
        · have hl2 := (List.getElem?_eq_some_iff.mp h1).1
          rw [List.length_append, List.length_singleton] at hl2
          have ej : j = i := by omega
          subst ej
          rw [List.getElem?_append_right (by omega), hpl, Nat.sub_self] at h1
          cases h1
          rw [hy] at h2
          cases h2
          rw [upd_ne nDt.symm]
          exact ht
    · rintro H4 ⟨x4, ps, hD4, hpl, hps⟩
      rw [List.length_map] at hpl
      refine k D ps H4 (x1.trans x4) (x1.old _ nD) hD4 ⟨by unfold rowsT; rw [List.length_map]; exact hpl, fun i q z2 h1 h2 => ?_⟩
      unfold rowsT at h2
      obtain ⟨l, hl, rfl⟩ := get_map h2
      exact hps i q l h1 hl
/-! ### written -/
def spWrit (K : PySem.W.Frag) (cs : List (Addr × Addr)) : Sp := fun vs H Q _ => ∃ (a : Addr) (as : List Addr) (rows : List (List Str)), vs = [.ref a] ∧ Tabs cs H ∧ PageAt K H a as rows ∧ PgOk rows ∧ ∀ H', Ex cs H H' → Q (.str (pageT rows)) H'
theorem sumLeT (m : Nat) : ∀ (ys : List Str), (∀ y ∈ ys, y.length ≤ m) → (ys.map (·.length)).sum ≤ ys.length * m
  | [], _ => Nat.zero_le _
  | y :: ys, h => by
    have h1 := h y (by simp)
    have h2 := sumLeT m ys fun x hx => h x (by simp [hx])
    rw [List.map_cons, List.sum_cons, List.length_cons, Nat.add_mul]
    omega
theorem sc_writ : FnScope ["page", "row"] ["page"] (defScope s_written) := ⟨rfl, rfl, rfl, by decide +kernel, rfl, by decide +kernel, by decide +kernel⟩
theorem ok_writ {f g1 : Addr} {fd fd1 : FuncData} (eT : ∃ t, mg "TAB" = some (.str tabS t)) (eL : ∃ t, mg "LINE_END" = some (.str lineS t)) (F : Fun K "written" "written" s_written f fd)
    (G1 : FnOk P w K mg base CX0 11 g1 fd1 ["page"] (spCheck K cs)) (k1 : PySem.W.keepIn K (.ref g1) = true) (b1 : Binds K fd1 ["page"] []) (m1 : mg "check_page" = some (.ref g1)) : FnOk P w K mg base CX0 12 f fd ["page"] (spWrit K cs) := by
  refine F.ok sc_writ (fun vs H Q E h => ?_) (fun cdv A outer s H vs Q E hr h => ?_)
  · obtain ⟨a, as, rows, rfl, _⟩ := h
    rfl
  · obtain ⟨a, as, rows, rfl, hT, hP, hO, k⟩ := h
    have nd := sc_writ.nd
    obtain ⟨tt, eT⟩ := eT
    obtain ⟨tl, eL⟩ := eL
    have szl : (1000 : Nat) < sizeLine := by decide
    refine ⟨_, pss_cons (ps_expr (pe_call G1 hr (by rfl) m1 k1 b1 .nil pass0 (pa_cons (pv 0) pa_nil))) (pss_one (ps_ret (pe_join (pe_glob (v := .str lineS) rfl eL ⟨_, rfl⟩)
      (pe_lc (own := [("row", 1)]) (g := gName 1) (tt := tYes) rfl nd (pi_list (pv 0)) (blkOk_by (own := [("row", 1)]) (N := ["page", "row"]) (sc := defScope s_written) (by decide +kernel)) (fun _ _ _ _ _ => pg_name (i := 1) nd rfl (Or.inl rfl)) (fun _ _ _ _ _ => pts_nil)
        (fun s1 H1 C1 cl1 fp1 => show PE _ _ (tM1 (rJoin K) (tC (.str tabS)) (tVar 1)) from pe_join (pe_glob (v := .str tabS) (by rfl) eT ⟨_, rfl⟩) (pv 1)))))), ?_⟩
    have hrl : ∀ r ∈ rows, r.length ≤ 6 ∧ ∀ z ∈ r, z.length ≤ 10 := fun r hr => ⟨(hO.rows r hr).2, fun z hz => ((hO.rows r hr).3 z hz).1⟩
    have hl := hO.len
    refine ⟨_, rfl, a, as, rows, rfl, hT, hP, hO, fun H1 x1 => ⟨⟨_, rfl⟩, _, rfl, a, rfl, ⟨_, x1.sqL hP.lst⟩, fun D nD => lc_list (xs := as.map V.ref) (fun i H' => Ex cs H1 H' ∧ H' D = some (.lst (sV ((rows.map rowT).take i))))
      ⟨Ex.laid x1.tab nD, upd_same⟩ (fun i H' _ x => x.1.sqL (x1.sqL hP.lst)) ?_ ?_⟩⟩
    · rintro i v H4 hv ⟨x4, hD4⟩
      obtain ⟨q, hq, rfl⟩ := get_map hv
      have hi := (List.getElem?_eq_some_iff.mp hq).1
      obtain ⟨r, hr2⟩ := getP (xs := rows) (i := i) (by rw [← hP.len]; exact hi)
      obtain ⟨l6, l10⟩ := hrl r (List.mem_of_getElem? hr2)
      have hs := sumLeT 10 r l10
      have e1 : tabS.length = 1 := by decide +kernel
      refine ⟨rfl, ⟨_, rfl⟩, _, rfl, _, q, r, rfl, rfl, .inr ((x1.trans x4).sqT (hP.row i q r hq hr2)), by rw [e1]; omega, _, hD4, ?_, ex_new x1.tab x4 nD, ?_⟩
      · rw [List.length_map, List.length_take]; rw [List.length_map]; have := hP.len; omega
      · have e : (rows.map rowT)[i]? = some (rowT r) := by
          rw [List.getElem?_map, hr2]
          rfl
        rw [upd_same, List.take_add_one, e]
        simp [sV]
        rfl
    · rintro H4 ⟨x4, hD4⟩
      have e2 : (rows.map rowT).take (as.map V.ref).length = rows.map rowT := List.take_of_length_le (by rw [List.length_map, List.length_map, hP.len]; exact Nat.le_refl _)
      rw [e2] at hD4
      have hs := sumLeT 66 (rows.map rowT) fun y hy => by
        obtain ⟨r, hr, rfl⟩ := List.mem_map.mp hy
        exact rowT_len (hO.rows r hr)
      rw [List.length_map] at hs
      have e1 : lineS.length = 1 := by decide +kernel
      exact ⟨_, D, rows.map rowT, rfl, rfl, .inl (SqL.of hD4), by rw [e1, List.length_map]; omega, k H4 (x1.trans x4)⟩
end
end TG

namespace TG
open PySem PySem.Spec PyProof.Rows L2 Gx
/-! ### places of this text -/
abbrev nTable : Nat := 33
abbrev s_marks_there : Stmt := top 35
abbrev s_check_mark : Stmt := top 34
abbrev s_those_there : Stmt := top 36
abbrev s_text_of : Stmt := top 37
abbrev s_first_there : Stmt := top 38
def clsB : Stmt → List Stmt
  | .ClassDef _ _ _ b _ _ _ _ _ _ _ => b
  | _ => []
def mth (c i : Nat) : Stmt := (clsB (top c)).getD i (.Pass ⟨0, 0, 0, 0⟩)
/-! ### all but some stays -/
def KM (A : Addr → Prop) (H H' : Hp) : Prop := ∀ c o, H c = some o → (∀ ps, o ≠ .tbl ps) → ¬ A c → H' c = some o
/-- no table, or none of these -/
def NT (cs : List (Addr × Addr)) (c : Addr) (o : HO) : Prop := (∀ ps, o ≠ .tbl ps) ∨ ∀ p ∈ cs, p.2 ≠ c
/-- as KM, other tables stay too -/
def KN (cs : List (Addr × Addr)) (A : Addr → Prop) (H H' : Hp) : Prop := ∀ c o, H c = some o → NT cs c o → ¬ A c → H' c = some o
def Mob (H : Hp) (A : Addr → Prop) : Prop := ∀ c, A c → (∃ us, H c = some (.lst us)) ∨ (∃ C dx fs, H c = some (.ins C dx fs))
section
variable {K : PySem.W.Frag} {A B : Addr → Prop} {H H1 H' : Hp}
theorem KM.of (x : LamX.ExtN H H') : KM A H H' := fun c o h n _ => x c o h n
theorem KM.tr (x : KM A H H1) (y : KM A H1 H') : KM A H H' := fun c o h n m => y c o (x c o h n m) n m
theorem KM.mono (x : KM A H H') (h : ∀ c, A c → B c) : KM B H H' := fun c o e n m => x c o e n fun z => m (h c z)
theorem sqT_km {t : Addr} {xs : List V} (x : KM A H H') (m : Mob H A) (h : SqT K H t xs) : SqT K H' t xs := by
  rcases h with (h | ⟨u, h⟩) | h
  · refine .inl (.inl (x _ _ h (fun ps z => by cases z) fun z => ?_))
    rcases m _ z with ⟨us, e⟩ | ⟨C, dx, fs, e⟩ <;> rw [e] at h <;> cases h
  · refine .inl (.inr ⟨u, x _ _ h (fun ps z => by cases z) fun z => ?_⟩)
    rcases m _ z with ⟨us, e⟩ | ⟨C, dx, fs, e⟩ <;> rw [e] at h <;> cases h
  · exact .inr h
theorem tup_km {t : Addr} {xs : List V} (x : KM A H H') (m : Mob H A) (h : H t = some (.tup xs)) : H' t = some (.tup xs) :=
  x _ _ h (fun ps z => by cases z) fun z => by
    rcases m _ z with ⟨us, e⟩ | ⟨C, dx, fs, e⟩ <;> rw [e] at h <;> cases h
theorem upd_km {a : Addr} {o : HO} : KM (fun c => c = a) H (upd H a o) := fun c u h _ n => by rw [upd_ne n]; exact h
theorem same_ex {cs : List (Addr × Addr)} (x : Same H H') (t : Tabs cs H) : Ex cs H H' :=
  ⟨fun b o h _ => x b o h, fun p hp => by
    obtain ⟨ps, h1, h2⟩ := t p hp
    exact ⟨ps, x _ _ h1, h2⟩, fun b h => same_old x h, fun b o h _ => x b o h⟩
theorem _root_.Gx.Ex.any {cs : List (Addr × Addr)} (x : Ex cs H H') {c : Addr} {o : HO} (h : H c = some o) (n : NT cs c o) : H' c = some o := by
  rcases n with n | n
  · exact x.ext _ _ h n
  · exact x.oth _ _ h n
theorem KN.w {cs : List (Addr × Addr)} (x : KN cs A H H') : KM A H H' := fun c o h n m => x c o h (.inl n) m
theorem KN.same {cs : List (Addr × Addr)} (x : Same H H') : KN cs A H H' := fun c o h _ _ => x c o h
theorem KN.tr {cs : List (Addr × Addr)} (x : KN cs A H H1) (y : KN cs A H1 H') : KN cs A H H' := fun c o h n m => y c o (x c o h n m) n m
end
/-! ### marks and deeds -/
abbrev Deed := Nat × Str × Nat × Bool
def dV (d : Deed) : List V := [.int (d.1 : Nat), .str d.2.1, .int (d.2.2.1 : Nat), .bl d.2.2.2]
def nV (l : List Nat) : List V := l.map fun n => V.int (n : Nat)
def bV (l : List Bool) : List V := l.map V.bl
structure DeedsAt (H : Hp) (dl : Addr) (da : List Addr) (ds : List Deed) : Prop where
  lst : H dl = some (.lst (da.map V.ref))
  len : da.length = ds.length
  at_ : ∀ (i : Nat) (t : Addr) (d : Deed), da[i]? = some t → ds[i]? = some d → H t = some (.tup (dV d))
theorem DeedsAt.same {H H' : Hp} {dl : Addr} {da : List Addr} {ds : List Deed} (o : DeedsAt H dl da ds) (x : Same H H') : DeedsAt H' dl da ds :=
  ⟨x _ _ o.lst, o.len, fun i t d h1 h2 => x _ _ (o.at_ i t d h1 h2)⟩
/-- what a deed makes of what is there -/
def markR (th : List Bool) (d : Deed) : List Bool := if d.2.2.2 = decide (d.2.1 = "") then th.set d.2.2.1 false else th
def thereR (many : Nat) (ds : List Deed) : List Bool := ds.foldl markR (List.replicate many true)
theorem markR_len (th : List Bool) (d : Deed) : (markR th d).length = th.length := by
  unfold markR
  split
  · rw [List.length_set]
  · rfl
theorem thereR_len (many : Nat) (ds : List Deed) : (thereR many ds).length = many := by
  have : ∀ (ds : List Deed) (th : List Bool), (ds.foldl markR th).length = th.length := by
    intro ds
    induction ds with
    | nil => intro th; rfl
    | cons d ds ih => intro th; rw [List.foldl_cons, ih, markR_len]
  unfold thereR
  rw [this, List.length_replicate]
def thoseR (order : List Nat) (there : List Bool) : List Nat := order.filter fun m => there.getD m false
def textR (signs : List Str) (marks : List Nat) : Str := Txt.join "" (marks.map fun m => signs.getD m "")
def firstR (order : List Nat) (there : List Bool) (spot : Nat) : Nat := ((order.drop (order.idxOf spot)).find? fun m => there.getD m false).getD 0
theorem nV_get {l : List Nat} {i m : Nat} (h : l[i]? = some m) : (nV l)[i]? = some (.int (m : Nat)) := by unfold nV; rw [List.getElem?_map, h]; rfl
theorem bV_get {l : List Bool} {i : Nat} (h : i < l.length) : (bV l)[i]? = some (.bl (l.getD i false)) := by
  unfold bV
  rw [List.getElem?_map, List.getElem?_eq_getElem h, List.getD_eq_getElem?_getD, List.getElem?_eq_getElem h]
  rfl
theorem ixN_nat {n j : Nat} (h : j < n) : ixN n ((j : Nat) : Int) = some j := by
  unfold ixN
  have e : ¬ ((j : Int) < 0) := by omega
  simp [e, h]
end TG

namespace TG
open PySem PySem.Spec PyProof.Rows L2 NdefX GenW Gx Lv
/-! ### a text's rows, sign by sign -/
def spl1 (s : Nat) : List Nat → List Nat → List (List Nat)
  | acc, [] => [acc]
  | acc, c :: l => if c = s then acc :: spl1 s [] l else spl1 s (acc ++ [c]) l
theorem spl_one (s : Nat) : ∀ (l acc : List Nat), TL.spl [s] 0 acc l = spl1 s acc l
  | [], acc => rfl
  | c :: r, acc => by
    have hp : TL.pre [s] (c :: r) = decide (c = s) := by
      show (List.take 1 (c :: r) == [s]) = _
      by_cases h : c = s
      · subst h; simp
      · simp [h]
    unfold TL.spl spl1
    rw [hp]
    by_cases h : c = s
    · rw [if_pos (decide_eq_true h), if_pos h]
      rw [← spl_one s r []]
      rfl
    · rw [if_neg (by rw [decide_eq_false h]; exact Bool.false_ne_true), if_neg h]
      exact spl_one s r _
theorem spl1_ne (s : Nat) : ∀ (l acc : List Nat), spl1 s acc l ≠ []
  | [], acc => by simp [spl1]
  | c :: r, acc => by
    unfold spl1
    split
    · simp
    · exact spl1_ne s r _
theorem spl1_mem (s : Nat) : ∀ (l acc : List Nat) (p : List Nat), p ∈ spl1 s acc l → s ∉ acc → s ∉ p ∧ ∀ c ∈ p, c ∈ acc ∨ c ∈ l
  | [], acc, p, h, ha => by
    unfold spl1 at h
    rw [List.mem_singleton] at h
    subst h
    exact ⟨ha, fun c hc => .inl hc⟩
  | c :: r, acc, p, h, ha => by
    unfold spl1 at h
    split at h
    · rename_i hcs
      rcases List.mem_cons.mp h with rfl | h
      · exact ⟨ha, fun d hd => .inl hd⟩
      · obtain ⟨h1, h2⟩ := spl1_mem s r [] p h (by simp)
        exact ⟨h1, fun d hd => by
          rcases h2 d hd with z | z
          · cases z
          · exact .inr (List.mem_cons_of_mem _ z)⟩
    · rename_i hcs
      obtain ⟨h1, h2⟩ := spl1_mem s r (acc ++ [c]) p h (fun z => by
        rcases List.mem_append.mp z with z | z
        · exact ha z
        · exact hcs (List.mem_singleton.mp z).symm)
      exact ⟨h1, fun d hd => by
        rcases h2 d hd with z | z
        · rcases List.mem_append.mp z with z | z
          · exact .inl z
          · rw [List.mem_singleton.mp z]; exact .inr List.mem_cons_self
        · exact .inr (List.mem_cons_of_mem _ z)⟩
theorem spl1_end (s : Nat) : ∀ (l acc : List Nat), spl1 s acc (l ++ [s]) = spl1 s acc l ++ [[]]
  | [], acc => by simp [spl1]
  | c :: r, acc => by
    show spl1 s acc (c :: (r ++ [s])) = _
    unfold spl1
    split
    · rw [spl1_end s r []]; rfl
    · exact spl1_end s r _
theorem spl1_more (s c : Nat) (hc : c ≠ s) : ∀ (l acc : List Nat) (R : List (List Nat)) (C : List Nat), spl1 s acc l = R ++ [C] → spl1 s acc (l ++ [c]) = R ++ [C ++ [c]]
  | [], acc, R, C, h => by
    unfold spl1 at h
    have e : R = [] ∧ C = acc := by
      cases R with
      | nil => injection h with h _; exact ⟨rfl, h.symm⟩
      | cons x R => injection h with _ h; cases R <;> cases h
    obtain ⟨rfl, rfl⟩ := e
    simp [spl1, hc]
  | d :: r, acc, R, C, h => by
    show spl1 s acc (d :: (r ++ [c])) = _
    unfold spl1 at h ⊢
    split
    · rename_i hd
      rw [if_pos hd] at h
      cases R with
      | nil =>
        injection h with _ h
        exact absurd h (spl1_ne s r [])
      | cons x R =>
        injection h with h1 h2
        rw [spl1_more s c hc r [] R C h2, h1]
        rfl
    · rename_i hd
      rw [if_neg hd] at h
      exact spl1_more s c hc r _ R C h
/-- what is gone on with: cells, a cell, and the signs to come, the last of which is a line's end -/
def goR : List (List Nat) → List Nat → List Nat → List (List (List Nat))
  | _, _, [] => []
  | R, C, c :: l => if c = 9 then goR (R ++ [C]) [] l else if c = 10 then (R ++ [C]) :: goR [] [] l else goR R (C ++ [c]) l
theorem go_split : ∀ (l acc : List Nat) (R : List (List Nat)) (C : List Nat), spl1 9 [] acc = R ++ [C] → (spl1 10 acc l).map (spl1 9 []) = goR R C (l ++ [10])
  | [], acc, R, C, h => by
    show [spl1 9 [] acc] = goR R C [10]
    rw [h]
    rfl
  | c :: l, acc, R, C, h => by
    show (spl1 10 acc (c :: l)).map (spl1 9 []) = goR R C (c :: (l ++ [10]))
    unfold spl1 goR
    by_cases h9 : c = 9
    · subst h9
      rw [if_neg (by decide), if_pos rfl]
      exact go_split l _ _ _ (by rw [spl1_end, h])
    · rw [if_neg h9]
      by_cases h10 : c = 10
      · rw [if_pos h10, if_pos h10, List.map_cons, h, go_split l [] [] [] rfl]
      · rw [if_neg h10, if_neg h10]
        exact go_split l _ _ _ (spl1_more 9 c h9 acc [] R C h)
theorem rowsT_cl (z : Str) : (rowsT z).map (List.map cl) = goR [] [] (cl z ++ [10]) := by
  have e1 := split_clL z lineS (by rw [cl_lineS]; decide) kind_line
  rw [cl_lineS, spl_one] at e1
  rw [← go_split (cl z) [] [] [] rfl, ← e1, List.map_map]
  unfold rowsT
  rw [List.map_map]
  apply List.map_congr_left
  intro p _
  have e2 := split_clL p tabS (by rw [cl_tabS]; decide) kind_tab
  rw [cl_tabS, spl_one] at e2
  exact e2
/-- signs, tabs and line ends -/
def TxtSg (z : Str) : Prop := ∀ c ∈ cl z, SgOk c ∨ c = 9 ∨ c = 10
theorem rowsT_sg {z : Str} (h : TxtSg z) : ∀ r ∈ rowsT z, ∀ x ∈ r, (∀ c ∈ cl x, SgOk c) ∧ x.length ≤ z.length := by
  intro r hr x hx
  unfold rowsT at hr
  obtain ⟨p, hp, rfl⟩ := List.mem_map.mp hr
  have l1 := split_pieceL (by rw [cl_lineS]; decide) kind_line hp
  have l2 := split_pieceL (by rw [cl_tabS]; decide) kind_tab hx
  have e1 := split_clL z lineS (by rw [cl_lineS]; decide) kind_line
  rw [cl_lineS, spl_one] at e1
  have e2 := split_clL p tabS (by rw [cl_tabS]; decide) kind_tab
  rw [cl_tabS, spl_one] at e2
  have m1 : cl p ∈ spl1 10 [] (cl z) := by rw [← e1]; exact List.mem_map_of_mem hp
  have m2 : cl x ∈ spl1 9 [] (cl p) := by rw [← e2]; exact List.mem_map_of_mem hx
  obtain ⟨a1, a2⟩ := spl1_mem 10 _ _ _ m1 (by simp)
  obtain ⟨b1, b2⟩ := spl1_mem 9 _ _ _ m2 (by simp)
  refine ⟨fun c hc => ?_, by omega⟩
  rcases b2 c hc with q | q
  · cases q
  rcases a2 c q with q2 | q2
  · cases q2
  rcases h c q2 with q3 | q3 | q3
  · exact q3
  · rw [q3] at hc; exact absurd hc b1
  · rw [q3] at q; exact absurd q a1
theorem rowsT_pos (z : Str) : 1 ≤ (rowsT z).length ∧ ∀ r ∈ rowsT z, 1 ≤ r.length := by
  have ne : ∀ (x y : Str), cl y ≠ [] → Builtin.Str.strKind y = 1 → (∃ s, cl y = [s]) → 1 ≤ (Txt.split x y).length := fun x y h0 hk ⟨s, hs⟩ => by
    have e := split_clL x y h0 hk
    rw [hs, spl_one] at e
    have h := spl1_ne s (cl x) []
    rw [← e] at h
    cases q : Txt.split x y with
    | nil => rw [q] at h; exact absurd rfl h
    | cons a b => simp
  refine ⟨?_, fun r hr => ?_⟩
  · unfold rowsT
    rw [List.length_map]
    exact ne z lineS (by rw [cl_lineS]; decide) kind_line ⟨10, cl_lineS⟩
  · unfold rowsT at hr
    obtain ⟨p, _, rfl⟩ := List.mem_map.mp hr
    exact ne p tabS (by rw [cl_tabS]; decide) kind_tab ⟨9, cl_tabS⟩
theorem rowsT_len {z : Str} (h : z.length ≤ 1000000) : (rowsT z).length ≤ 1000002 ∧ ∀ r ∈ rowsT z, r.length ≤ 1000002 := by
  refine ⟨?_, fun r hr => ?_⟩
  · unfold rowsT
    rw [List.length_map]
    exact Nat.le_trans (PyProof.Rows.split_le z _) (by omega)
  · unfold rowsT at hr
    obtain ⟨p, hp, rfl⟩ := List.mem_map.mp hr
    have l1 := split_pieceL (by rw [cl_lineS]; decide) kind_line hp
    exact Nat.le_trans (PyProof.Rows.split_le p _) (by omega)
/-! ### which row can't be -/
def fitR (r : List Str) : Bool := decide (r.length ≤ 6) && r.all fun z => decide (z.length ≤ 10)
structure BadAt (rows : List (List Str)) (n : Nat) : Prop where
  lt : n < rows.length
  n30 : n ≤ 30
  bad : n = 30 ∨ ∃ r, rows[n]? = some r ∧ fitR r = false
  ok : ∀ i r, i < n → rows[i]? = some r → fitR r = true
def GoodR (rows : List (List Str)) : Prop := rows.length ≤ 30 ∧ ∀ r ∈ rows, fitR r = true
theorem good_or (rows : List (List Str)) : GoodR rows ∨ ∃ n, BadAt rows n := by
  have key : ∀ n, n ≤ rows.length → n ≤ 30 → (∃ m, BadAt rows m) ∨ ∀ i r, i < n → rows[i]? = some r → fitR r = true := by
    intro n
    induction n with
    | zero => exact fun _ _ => .inr fun i r h => absurd h (Nat.not_lt_zero _)
    | succ n ih =>
      intro h1 h2
      rcases ih (by omega) (by omega) with h | h
      · exact .inl h
      · obtain ⟨r, hr⟩ := getP (xs := rows) (i := n) (by omega)
        cases hf : fitR r with
        | false => exact .inl ⟨n, by omega, by omega, .inr ⟨r, hr, hf⟩, h⟩
        | true =>
          refine .inr fun i q hi hq => ?_
          by_cases e : i = n
          · subst e; rw [hr] at hq; cases hq; exact hf
          · exact h i q (by omega) hq
  by_cases hl : rows.length ≤ 30
  · rcases key rows.length (Nat.le_refl _) hl with h | h
    · exact .inr h
    · refine .inl ⟨hl, fun r hr => ?_⟩
      obtain ⟨i, hi, e⟩ := List.getElem_of_mem hr
      exact h i r hi (by rw [List.getElem?_eq_getElem hi, e])
  · rcases key 30 (by omega) (Nat.le_refl _) with h | h
    · exact .inr h
    · exact .inr ⟨30, by omega, Nat.le_refl _, .inl rfl, h⟩
theorem good_pg {z : Str} (h : TxtSg z) (g : GoodR (rowsT z)) : PgOk (rowsT z) := by
  refine ⟨(rowsT_pos z).1, g.1, fun r hr => ?_⟩
  have f := g.2 r hr
  unfold fitR at f
  rw [Bool.and_eq_true, List.all_eq_true] at f
  exact ⟨(rowsT_pos z).2 r hr, of_decide_eq_true f.1, fun x hx => ⟨of_decide_eq_true (f.2 x hx), (rowsT_sg h r hr x hx).1⟩⟩
end TG

namespace TG
open PySem PySem.Spec PyProof.Rows L2 NdefX GenW Gx Lv
/-! ### what is refused of a text -/
section
variable {P : Program} {w : World} {K : PySem.W.Frag} {mg : Str → Option Value} {base : Heap} {cs : List (Addr × Addr)}
def spText3 (cs : List (Addr × Addr)) : Sp := fun vs H Q _ => ∃ (z : Str) (m : Int), vs = [.str z, .int m] ∧ Tabs cs H ∧ z.length ≤ 1000000 ∧ (∀ c ∈ z.cps.toList, SgOk c) ∧ ∀ H', Ex cs H H' → Q (.bl (decide ((z.length : Int) ≤ m))) H'
theorem ok_text3 {f c Pt g : Addr} {fd fdg : FuncData} (T : Txt mg) (F : Fun K "is_text_of_signs" "is_text_of_signs" s_is_text f fd) (hc : fd.code = .ref c) (TB : GxR.TabB base mg c Pt) (hm : (c, Pt) ∈ cs)
    (G : FnOk P w K mg base CX0 1 g fdg ["sign"] spSg) (kp : PySem.W.keepIn K (.ref g) = true) (bd : Binds K fdg ["sign"] []) (mgg : mg "is_sign" = some (.ref g)) : FnOk P w K mg base CX0 5 f fd ["value", "most"] (spText3 cs) := by
  refine fun_okT F hc sc_text (fun vs H Q E h => ?_) (fun A outer s H vs Q E hr h => ?_)
  · obtain ⟨z, m, rfl, _⟩ := h
    rfl
  · obtain ⟨z, m, rfl, hT, h2, h3, k⟩ := h
    have szl : (10000000 : Nat) < sizeLine := by decide
    refine ⟨_, pss_one (ps_ret (pe_and (pe_callB call_isi (by rfl) T.isin (by decide +kernel) (pa_cons (pv 0) (pa_cons (pe_bltn (v := .ty "str") (by rfl) T.str (by decide +kernel) rfl) pa_nil)))
      (pe_and (pe_cmpR op_le (pe_callB call_len_str (by rfl) T.len PySem.boot_len (pa_cons (pv 0) pa_nil)) (pv 1) (nomark _))
        (pe_one (pe_allG (k := 1) (P := Pt) hr (by rfl) T.all TB rfl ⟨rfl, rfl, by decide +kernel, by decide +kernel, rfl, rfl⟩ (pi_str (pv 0)) (fun A' code s4 H4 fp hr' => pe_call G hr' (by rfl) mgg kp bd .nil pass0 (pa_cons (pv 0) pa_nil)) (fun _ => rfl)))))), ?_⟩
    by_cases h1 : (z.length : Int) ≤ m
    · rw [decide_eq_true h1] at k
      refine ⟨_, rfl, _, _, _, _, true, rfl, .ty _, .base (.str z), kit_ty (by decide +kernel), true, rfl, iteT ⟨_, rfl, z, rfl, by omega, _, rfl, _, _, rfl, rfl, true, dT h1, iteT ⟨_, rfl, z, rfl, hT _ hm, fun H2 hH2 => ?_⟩⟩⟩
      refine all_by (w := walk_str (z := z)) (fun _ => true) (fun _ H' => H' = H2) rfl (fun _ _ _ _ => trivial) (fun i v H3 H4 hi e y Z hZ => ?_) (fun H3 e _ => ?_) (fun i H3 _ e _ => by cases e)
      · obtain ⟨rfl, c, hc, rfl⟩ := y
        subst e
        refine ⟨_, rfl, c, rfl, h3 c ?_, hZ _ rfl⟩
        exact List.mem_of_getElem? (by rw [Array.getElem?_toList]; exact hc)
      · subst e
        exact k _ (Ex.tabbed hT hm hH2)
    · rw [decide_eq_false h1] at k
      exact ⟨_, rfl, _, _, _, _, true, rfl, .ty _, .base (.str z), kit_ty (by decide +kernel), true, rfl, iteT ⟨_, rfl, z, rfl, by omega, _, rfl, _, _, rfl, rfl, false, dF h1, iteF (k H (Ex.refl hT))⟩⟩
structure RowT (r : List Str) : Prop where
  pos : 1 ≤ r.length
  sg : ∀ z ∈ r, ∀ c ∈ cl z, SgOk c
  len : ∀ z ∈ r, z.length ≤ 1000000
def spRow3 (K : PySem.W.Frag) (cs : List (Addr × Addr)) : Sp := fun vs H Q _ => ∃ (a : Addr) (r : List Str), vs = [.ref a] ∧ Tabs cs H ∧ SqT K H a (sV r) ∧ RowT r ∧ ∀ H', Ex cs H H' → Q (.bl (fitR r)) H'
theorem ok_row3 {f c Pt g : Addr} {fd fdg : FuncData} (T : Txt mg) (N : Consts mg) (F : Fun K "is_row" "is_row" s_is_row f fd) (hc : fd.code = .ref c) (TB : GxR.TabB base mg c Pt) (hm : (c, Pt) ∈ cs)
    (W : FnOk P w K mg base CX0 5 g fdg ["value", "most"] (spText3 cs)) (kp : PySem.W.keepIn K (.ref g) = true) (bd : Binds K fdg ["value", "most"] []) (mgg : mg "is_text_of_signs" = some (.ref g)) : FnOk P w K mg base CX0 9 f fd ["value"] (spRow3 K cs) := by
  refine fun_okT F hc sc_row (fun vs H Q E h => ?_) (fun A outer s H vs Q E hr h => ?_)
  · obtain ⟨a, r, rfl, _⟩ := h
    rfl
  · obtain ⟨a, r, rfl, hT, hS, hL, k⟩ := h
    obtain ⟨t1, e1⟩ := N.cells
    obtain ⟨t2, e2⟩ := N.signs
    refine ⟨_, pss_cons (ps_if (PW.pt (pw_or (pt_not (pt_val (pe_callB call_isi (by rfl) T.isin (by decide +kernel) (pa_cons (pv 0) (pa_cons (pe_bltn (v := .ty "tuple") (by rfl) T.tuple (by decide +kernel) rfl) pa_nil)))))
        (pw_or1 (pt_not (pt_chain op_le op_le pe_int (pe_callB call_len_seq (by rfl) T.len PySem.boot_len (pa_cons (pv 0) pa_nil)) (pe_glob (v := .int 6) rfl e1 ⟨_, rfl⟩)))))) (pss_one (ps_ret pe_bl)) pss_nil)
      (pss_one (ps_ret (pe_allG (k := 5) (P := Pt) hr (by rfl) T.all TB rfl ⟨rfl, rfl, by decide +kernel, by decide +kernel, rfl, rfl⟩ (pi_tup (pv 0))
        (fun A' code s4 H4 fp hr' => pe_call W hr' (by rfl) mgg kp bd .nil pass0 (pa_cons (pv 0) (pa_cons (pe_glob (v := .int 10) rfl e2 ⟨_, rfl⟩) pa_nil))) (fun _ => rfl)))), ?_⟩
    have hl : (sV r).length = r.length := List.length_map ..
    have hpos := hL.pos
    refine ⟨_, rfl, _, _, _, _, true, rfl, .ty _, ty_tup hS, kit_ty (by decide +kernel), true, rfl, iteF ⟨_, rfl, a, _, rfl, .inr hS, 1, _, rfl, rfl, true, dT (by omega), iteT ⟨_, 6, rfl, rfl, ?_⟩⟩⟩
    by_cases h6 : r.length ≤ 6
    · refine ⟨true, dT (by omega), iteF ⟨_, rfl, a, rfl, ⟨_, hS⟩, hT _ hm, fun H2 hH2 => ?_⟩⟩
      have x2 := Ex.tabbed hT hm hH2
      have ef : fitR r = r.all fun z => decide (z.length ≤ 10) := by unfold fitR; rw [decide_eq_true h6, Bool.true_and]
      refine all_by (w := walk_tup (a := a) (xs := sV r)) (fun i => match r[i]? with | some z => decide (z.length ≤ 10) | none => true) (fun _ H' => Ex cs H H') x2 (fun i H' _ x => x.sqT hS) (fun i v H3 H4 hi x y Z hZ => ?_) (fun H3 x hall => ?_) (fun i H3 hi hff x => ?_)
      · obtain ⟨rfl, hv⟩ := y
        obtain ⟨z, hz, rfl⟩ := get_map hv
        have zm := List.mem_of_getElem? hz
        refine ⟨_, rfl, z, 10, rfl, x.tab, hL.len z zm, hL.sg z zm, fun H5 x5 => ?_⟩
        have := hZ _ (x.trans x5)
        rw [hz] at this
        have e : decide ((z.length : Int) ≤ 10) = decide (z.length ≤ 10) := by
          by_cases q : z.length ≤ 10
          · rw [decide_eq_true q, decide_eq_true (by omega)]
          · rw [decide_eq_false q, decide_eq_false (by omega)]
        rw [e]
        exact this
      · have e : fitR r = true := by
          rw [ef, List.all_eq_true]
          intro z hz
          obtain ⟨i, hi, e⟩ := List.getElem_of_mem hz
          have q := hall i (by omega)
          rw [List.getElem?_eq_getElem hi, e] at q
          exact q
        rw [← e]
        exact k _ x
      · have e : fitR r = false := by
          rw [ef, Bool.eq_false_iff]
          intro q
          rw [List.all_eq_true] at q
          have hi2 : i < r.length := by omega
          rw [List.getElem?_eq_getElem hi2] at hff
          have := q _ (List.getElem_mem hi2)
          rw [show decide (r[i].length ≤ 10) = false from hff] at this
          cases this
        rw [← e]
        exact k _ x
    · refine ⟨false, dF (by omega), iteT ?_⟩
      have e : fitR r = false := by unfold fitR; rw [decide_eq_false h6, Bool.false_and]
      rw [← e]
      exact k _ (Ex.refl hT)
def spMisB (K : PySem.W.Frag) (cs : List (Addr × Addr)) : Sp := fun vs H Q _ => ∃ (a : Addr) (as : List Addr) (rows : List (List Str)) (n : Nat), vs = [.ref a] ∧ Tabs cs H ∧ PageAt K H a as rows ∧ (∀ r ∈ rows, RowT r) ∧ BadAt rows n ∧ ∀ H', Ex cs H H' → Q (.int (n : Nat)) H'
theorem ok_misB {f g : Addr} {fd fdg : FuncData} (T : Txt mg) (N : Consts mg) (F : Fun K "first_misfit" "first_misfit" s_misfit f fd)
    (G : FnOk P w K mg base CX0 9 g fdg ["value"] (spRow3 K cs)) (kp : PySem.W.keepIn K (.ref g) = true) (bd : Binds K fdg ["value"] []) (mgg : mg "is_row" = some (.ref g)) : FnOk P w K mg base CX0 10 f fd ["rows"] (spMisB K cs) := by
  refine F.ok sc_misfit (fun vs H Q E h => ?_) (fun cdv A outer s H vs Q E hr h => ?_)
  · obtain ⟨a, as, rows, n, rfl, _⟩ := h
    rfl
  · obtain ⟨a, as, rows, n, rfl, hT, hP, hO, hB, k⟩ := h
    have nd := sc_misfit.nd
    obtain ⟨t1, e1⟩ := N.rows
    refine ⟨_, pss_cons (ps_for PassesOwn.never rfl (pi_enum (by rfl) T.enum (pa_cons (pv 0) pa_nil)) (pg_tup rfl (pgs_cons (pg_name (i := 1) nd rfl (.inl rfl)) (pgs_cons (pg_name (i := 2) nd rfl (.inl rfl)) pgs_nil)))
        (pss_one (ps_if (PW.pt (pw_or (pt_cmpR op_eq (pv 1) (pe_glob (v := .int 30) rfl e1 ⟨_, rfl⟩) (nomark _)) (pw_or1 (pt_not (pt_val (pe_call G hr (by rfl) mgg kp bd .nil pass0 (pa_cons (pv 2) pa_nil))))))) (pss_one (ps_ret (pv 1))) pss_nil)))
      (pss_one ps_never), ?_⟩
    have hl : (as.map V.ref).length = rows.length := by rw [List.length_map]; exact hP.len
    have hlt := hB.lt
    refine ⟨_, rfl, a, _, rfl, hP.lst, for_it (walk_enum (xs := as.map V.ref)) (fun i σ H' => i ≤ n ∧ Ex cs H H' ∧ σ[0]? = some (some (.ref a)) ∧ σ.length = 3) ⟨Nat.zero_le _, Ex.refl hT, rfl, rfl⟩ (fun i σ H' _ x => x.2.1.sqL hP.lst) ?_ ?_⟩
    · rintro i x σ H3 H4 hi ⟨hin, x3, s0, sl⟩ ⟨Tp, v, u, rfl, hn, rfl, hv, hu⟩
      cases hv
      obtain ⟨p, hp, rfl⟩ := get_map hu
      have hi2 : i < rows.length := by omega
      obtain ⟨r, hr2⟩ := getP hi2
      have xl := Ex.laid (o := .tup [.int (i : Nat), .ref p]) x3.tab hn
      refine ⟨Tp, _, rfl, .inl (.inl upd_same), rfl, _, _, rfl, _, _, rfl, rfl, ?_⟩
      have g1 : ((σ.set 1 (some (V.int (i : Nat)))).set 2 (some (V.ref p)))[1]? = some (some (V.int (i : Nat))) := by
        rw [List.getElem?_set_ne (by decide)]
        exact List.getElem?_set_self (by omega)
      have g2 : ((σ.set 1 (some (V.int (i : Nat)))).set 2 (some (V.ref p)))[2]? = some (some (V.ref p)) := List.getElem?_set_self (by rw [List.length_set]; omega)
      have n30 := hB.n30
      by_cases h30 : i = 30
      · have ein : i = n := by omega
        subst ein
        exact ⟨_, g1, rfl, true, dT (by rw [h30]; rfl), iteT (iteT ⟨_, g1, k _ (x3.trans xl)⟩)⟩
      · refine ⟨_, g1, rfl, false, dF (fun z => by injection z with z; omega), iteF ⟨_, g2, p, r, rfl, xl.tab, (x3.trans xl).sqT (hP.row i p r hp hr2), hO r (List.mem_of_getElem? hr2), fun H5 x5 => ⟨_, rfl, ?_⟩⟩⟩
        by_cases hlt2 : i < n
        · rw [hB.ok i r hlt2 hr2]
          refine iteF ⟨by omega, (x3.trans xl).trans x5, ?_, ?_⟩
          · rw [List.getElem?_set_ne (by decide), List.getElem?_set_ne (by decide)]; exact s0
          · rw [List.length_set, List.length_set]; exact sl
        · have ein : i = n := by omega
          subst ein
          rcases hB.bad with q | ⟨r2, h1, h2⟩
          · exact absurd q h30
          · rw [hr2] at h1
            cases h1
            rw [h2]
            exact iteT ⟨_, g1, k _ ((x3.trans xl).trans x5)⟩
    · rintro σ H' ⟨hin, _⟩
      omega
end
end TG

namespace TG
open PySem PySem.Spec PyProof.Rows L2 Gx
section
variable {P : Program} {w : World} {K : PySem.W.Frag} {mg : Str → Option Value} {base : Heap} {cs : List (Addr × Addr)}
/-! ### those_there -/
def spThose (K : PySem.W.Frag) : Sp := fun vs H Q _ => ∃ (ol tl : Addr) (order : List Nat) (there : List Bool), vs = [.ref ol, .ref tl] ∧ SqL K H ol (nV order) ∧ SqL K H tl (bV there) ∧ (∀ m ∈ order, m < there.length) ∧ order.length ≤ 10000 ∧
  ∀ (D : Addr), H D = none → Q (.ref D) (upd H D (.lst (nV (thoseR order there))))
theorem sc_those : FnScope ["order", "there", "mark"] ["order", "there"] (defScope s_those_there) := ⟨rfl, rfl, rfl, by decide +kernel, rfl, by decide +kernel, by decide +kernel⟩
theorem thoseR_take {order : List Nat} {there : List Bool} {i m : Nat} (h : order[i]? = some m) : thoseR (order.take (i + 1)) there = thoseR (order.take i) there ++ (if there.getD m false = true then [m] else []) := by
  unfold thoseR
  rw [List.take_add_one, h, List.filter_append]
  congr 1
  rw [Option.toList_some, List.filter_cons, List.filter_nil]
theorem ok_those {f : Addr} {fd : FuncData} (F : Fun K "those_there" "those_there" s_those_there f fd) : FnOk P w K mg base CX0 1 f fd ["order", "there"] (spThose K) := by
  refine F.ok sc_those (fun vs H Q E h => ?_) (fun cdv A outer s H vs Q E hr h => ?_)
  · obtain ⟨ol, tl, order, there, rfl, _⟩ := h
    rfl
  · obtain ⟨ol, tl, order, there, rfl, h1, h2, hm, hl, k⟩ := h
    have nd := sc_those.nd
    have szl : (10000 : Nat) < sizeLine := by decide
    refine ⟨_, pss_one (ps_ret (pe_lc (own := [("mark", 2)]) (g := gName 2) rfl nd (pi_list (pv 0)) (blkOk_by (own := [("mark", 2)]) (N := ["order", "there", "mark"]) (sc := defScope s_those_there) (by decide +kernel))
        (fun _ _ _ _ _ => pg_name (i := 2) nd rfl (Or.inl rfl)) (fun _ _ _ _ _ => pts_one (pt_val (pe_ix (r := rIxL K) ix_list (pv 1) (pv 2) (fun _ _ => rfl)))) (fun _ _ _ _ _ => pv 2))), ?_⟩
    refine ⟨_, rfl, ol, rfl, ⟨_, h1⟩, fun D nD => lc_list (xs := nV order) (fun i H' => H' = upd H D (.lst (nV (thoseR (order.take i) there)))) rfl (fun i H' _ x => by rw [x]; exact same_sqL (same_new nD) h1) ?_ ?_⟩
    · rintro i x H' hx rfl
      obtain ⟨m, hmm, rfl⟩ := get_map hx
      have lt := hm m (List.mem_of_getElem? hmm)
      refine ⟨rfl, _, rfl, _, rfl, tl, _, _, _, rfl, rfl, same_sqL (same_new nD) h2, atI_nat (bV_get lt), there.getD m false, rfl, ?_⟩
      rw [thoseR_take hmm]
      cases e : there.getD m false with
      | true =>
        refine iteT ⟨_, rfl, _, upd_same, ?_, ?_⟩
        · have : (thoseR (order.take i) there).length ≤ (order.take i).length := List.length_filter_le _ _
          rw [List.length_take] at this
          unfold nV
          rw [List.length_map]
          omega
        · rw [upd_upd]
          simp [nV]
      | false =>
        refine iteF ?_
        simp
    · rintro H' rfl
      have e : order.take (nV order).length = order := List.take_of_length_le (by unfold nV; rw [List.length_map]; exact Nat.le_refl _)
      rw [e]
      exact k D nD
/-! ### text_of -/
def spTextOf (K : PySem.W.Frag) : Sp := fun vs H Q _ => ∃ (sl ml : Addr) (signs : List Str) (marks : List Nat), vs = [.ref sl, .ref ml] ∧ SqL K H sl (sV signs) ∧ SqL K H ml (nV marks) ∧ (∀ m ∈ marks, m < signs.length) ∧ marks.length ≤ 10000 ∧ (∀ z ∈ signs, z.length ≤ 1) ∧
  ∀ (H' : Hp), Same H H' → Q (.str (textR signs marks)) H'
theorem sc_textof : FnScope ["signs", "marks", "mark"] ["signs", "marks"] (defScope s_text_of) := ⟨rfl, rfl, rfl, by decide +kernel, rfl, by decide +kernel, by decide +kernel⟩
theorem signs_get {signs : List Str} {m : Nat} (h : m < signs.length) : (sV signs)[m]? = some (.str (signs.getD m "")) := by
  unfold sV
  rw [List.getElem?_map, List.getElem?_eq_getElem h, List.getD_eq_getElem?_getD, List.getElem?_eq_getElem h]
  rfl
theorem sum_ones : ∀ (ys : List Str), (∀ y ∈ ys, y.length ≤ 1) → (ys.map (·.length)).sum ≤ ys.length
  | [], _ => Nat.zero_le _
  | y :: ys, h => by
    have h1 := h y (by simp)
    have h2 := sum_ones ys fun x hx => h x (by simp [hx])
    rw [List.map_cons, List.sum_cons, List.length_cons]
    omega
theorem ok_textof {f : Addr} {fd : FuncData} (F : Fun K "text_of" "text_of" s_text_of f fd) : FnOk P w K mg base CX0 1 f fd ["signs", "marks"] (spTextOf K) := by
  refine F.ok sc_textof (fun vs H Q E h => ?_) (fun cdv A outer s H vs Q E hr h => ?_)
  · obtain ⟨sl, ml, signs, marks, rfl, _⟩ := h
    rfl
  · obtain ⟨sl, ml, signs, marks, rfl, h1, h2, hm, hl, hz, k⟩ := h
    have nd := sc_textof.nd
    have szl : (10000 : Nat) < sizeLine := by decide
    refine ⟨_, pss_one (ps_ret (pe_join pe_str (pe_lc (own := [("mark", 2)]) (g := gName 2) (tt := tYes) rfl nd (pi_list (pv 1)) (blkOk_by (own := [("mark", 2)]) (N := ["signs", "marks", "mark"]) (sc := defScope s_text_of) (by decide +kernel))
        (fun _ _ _ _ _ => pg_name (i := 2) nd rfl (Or.inl rfl)) (fun _ _ _ _ _ => pts_nil) (fun _ _ _ _ _ => pe_ix (r := rIxL K) ix_list (pv 0) (pv 2) (fun _ _ => rfl))))), ?_⟩
    refine ⟨⟨_, rfl⟩, _, rfl, ml, rfl, ⟨_, h2⟩, fun D nD => lc_list (xs := nV marks) (fun i H' => H' = upd H D (.lst (sV ((marks.take i).map fun m => signs.getD m "")))) rfl (fun i H' _ x => by rw [x]; exact same_sqL (same_new nD) h2) ?_ ?_⟩
    · rintro i x H' hx rfl
      obtain ⟨m, hmm, rfl⟩ := get_map hx
      have lt := hm m (List.mem_of_getElem? hmm)
      have li := (List.getElem?_eq_some_iff.mp hmm).1
      refine ⟨rfl, _, rfl, _, rfl, sl, _, _, _, rfl, rfl, same_sqL (same_new nD) h1, atI_nat (signs_get lt), _, upd_same, ?_, ?_⟩
      · unfold sV
        rw [List.length_map, List.length_map, List.length_take]
        omega
      · rw [upd_upd, List.take_add_one, hmm]
        simp [sV]
    · rintro H' rfl
      have e : marks.take (nV marks).length = marks := List.take_of_length_le (by unfold nV; rw [List.length_map]; exact Nat.le_refl _)
      rw [e]
      have hs := sum_ones (marks.map fun m => signs.getD m "") fun y hy => by
        obtain ⟨m, hmm, rfl⟩ := List.mem_map.mp hy
        have lt := hm m hmm
        rw [List.getD_eq_getElem?_getD, List.getElem?_eq_getElem lt]
        exact hz _ (List.getElem_mem lt)
      rw [List.length_map] at hs
      have e0 : ("" : Str).length = 0 := by decide +kernel
      exact ⟨_, D, _, rfl, rfl, .inl (SqL.of upd_same), by rw [e0, List.length_map]; omega, k _ (same_new nD)⟩
/-! ### marks_there -/
def spMarks (K : PySem.W.Frag) : Sp := fun vs H Q _ => ∃ (many : Nat) (dl : Addr) (da : List Addr) (ds : List Deed), vs = [.int (many : Nat), .ref dl] ∧ DeedsAt H dl da ds ∧ (∀ d ∈ ds, d.2.2.1 < many) ∧ many ≤ 10000 ∧
  ∀ (D : Addr) (H' : Hp), Same H H' → H D = none → H' D = some (.lst (bV (thereR many ds))) → Q (.ref D) H'
abbrev nmMarks : List Str := ["many", "deeds", "there", "hand", "sign", "mark", "stands"]
theorem sc_marks : FnScope nmMarks ["many", "deeds"] (defScope s_marks_there) := ⟨rfl, rfl, rfl, by decide +kernel, rfl, by decide +kernel, by decide +kernel⟩
theorem thereR_take {many : Nat} {ds : List Deed} {i : Nat} {d : Deed} (h : ds[i]? = some d) : thereR many (ds.take (i + 1)) = markR (thereR many (ds.take i)) d := by
  unfold thereR
  rw [List.take_add_one, h, Option.toList_some, List.foldl_append, List.foldl_cons, List.foldl_nil]
theorem ok_marks {f : Addr} {fd : FuncData} (F : Fun K "marks_there" "marks_there" s_marks_there f fd) : FnOk P w K mg base CX0 1 f fd ["many", "deeds"] (spMarks K) := by
  refine F.ok sc_marks (fun vs H Q E h => ?_) (fun cdv A outer s H vs Q E hr h => ?_)
  · obtain ⟨many, dl, da, ds, rfl, _⟩ := h
    rfl
  · obtain ⟨many, dl, da, ds, rfl, hD, hm, hl, k⟩ := h
    have nd := sc_marks.nd
    have szl : (10000 : Nat) < sizeLine := by decide
    refine ⟨_, pss_cons (ps_set (i := 2) nd rfl (.inl rfl) (pe_op op_rep (pe_lst (pa_cons pe_bl pa_nil)) (pv 0)))
      (pss_cons (ps_for PassesOwn.never rfl (pi_list (pv 1)) (pg_tup rfl (pgs_cons (pg_name (i := 3) nd rfl (.inl rfl)) (pgs_cons (pg_name (i := 4) nd rfl (.inl rfl)) (pgs_cons (pg_name (i := 5) nd rfl (.inl rfl)) (pgs_cons (pg_name (i := 6) nd rfl (.inl rfl)) pgs_nil)))))
        (pss_one (ps_if (pt_cmpR op_eq (pv 6) (pe_cmpR op_eq (pv 4) pe_str (nomark _)) (nomark _)) (pss_one (ps_asg pe_bl (pg_sub (pv 2) (pv 5) set_list))) pss_nil)))
      (pss_one (ps_ret (pv 2)))), ?_⟩
    refine ⟨by show 1 ≤ sizeLine; decide, fun l0 n0 => ⟨_, rfl, l0, _, _, rfl, rfl, upd_same, by omega, by omega, by simp; omega, fun D nD => ?_⟩⟩
    have x0 := same_new (o := .lst [V.bl true]) n0
    have nD0 : H D = none := same_old x0 nD
    have e0 : (List.replicate ((many : Nat) : Int).toNat [V.bl true]).flatten = bV (List.replicate many true) := by
      simp [bV]
    rw [e0]
    have hx : ∀ {o : HO}, Same H (upd (upd H l0 (.lst [V.bl true])) D o) := same_upd x0 nD0
    refine ⟨_, rfl, dl, rfl, ⟨_, SqL.of (hx _ _ hD.lst)⟩, for_list (xs := da.map V.ref) (fun i σ H' => H' = upd (upd H l0 (.lst [V.bl true])) D (.lst (bV (thereR many (ds.take i)))) ∧ ∃ c3 c4 c5 c6 : Option V, σ = [some (.int (many : Nat)), some (.ref dl), some (.ref D), c3, c4, c5, c6]) ⟨rfl, none, none, none, none, rfl⟩ (fun i σ H' _ x => by rw [x.1]; exact SqL.of (hx _ _ hD.lst)) ?_ ?_⟩
    · rintro i x σ H1 hx1 ⟨rfl, c3, c4, c5, c6, rfl⟩
      obtain ⟨t, ht, rfl⟩ := get_map hx1
      obtain ⟨d, hd⟩ := getP (xs := ds) (i := i) (by rw [← hD.len]; exact (List.getElem?_eq_some_iff.mp ht).1)
      have h3 := hD.at_ i t d ht hd
      have lt := hm d (List.mem_of_getElem? hd)
      refine ⟨t, _, rfl, .inl (.inl (hx _ _ h3)), rfl, _, _, rfl, _, _, rfl, _, _, rfl, _, _, rfl, rfl, ?_⟩
      rw [thereR_take hd]
      refine ⟨_, rfl, _, rfl, rfl, rfl, _, rfl, ?_⟩
      have e1 : decide (V.bl d.2.2.2 = V.bl (decide (V.str d.2.1 = V.str ""))) = decide (d.2.2.2 = decide (d.2.1 = "")) := by
        have : decide (V.str d.2.1 = V.str "") = decide (d.2.1 = "") := by simp
        rw [this]
        simp
      rw [e1]
      by_cases c : d.2.2.2 = decide (d.2.1 = "")
      · rw [decide_eq_true c]
        refine iteT ⟨_, rfl, _, rfl, D, _, _, d.2.2.1, rfl, rfl, upd_same, ixN_nat (by unfold bV; rw [List.length_map, thereR_len]; exact lt), ?_⟩
        refine ⟨?_, _, _, _, _, rfl⟩
        rw [upd_upd]
        unfold markR
        rw [if_pos c]
        simp [bV, List.map_set]
      · rw [decide_eq_false c]
        refine iteF ⟨?_, _, _, _, _, rfl⟩
        unfold markR
        rw [if_neg c]
    · rintro σ H1 ⟨rfl, c3, c4, c5, c6, rfl⟩
      refine ⟨_, rfl, k D _ hx nD0 ?_⟩
      have e : ds.take (da.map V.ref).length = ds := List.take_of_length_le (by rw [List.length_map, hD.len]; exact Nat.le_refl _)
      rw [upd_same, e]
/-! ### first_there -/
def spFirst (K : PySem.W.Frag) : Sp := fun vs H Q _ => ∃ (ol tl : Addr) (order : List Nat) (there : List Bool) (spot : Nat), vs = [.ref ol, .ref tl, .int (spot : Nat)] ∧ SqL K H ol (nV order) ∧ SqL K H tl (bV there) ∧ (∀ m ∈ order, m < there.length) ∧ order.length ≤ 10000 ∧ spot ∈ order ∧
  (∃ m ∈ order.drop (order.idxOf spot), there.getD m false = true) ∧ Q (.int (firstR order there spot : Nat)) H
abbrev nmFirst : List Str := ["order", "there", "spot", "number"]
theorem sc_first : FnScope nmFirst ["order", "there", "spot"] (defScope s_first_there) := ⟨rfl, rfl, rfl, by decide +kernel, rfl, by decide +kernel, by decide +kernel⟩
theorem idx_nat {l : List Nat} {p : Nat} (h : p ∈ l) : l[l.idxOf p]? = some p ∧ l.idxOf p < l.length ∧ ∀ m z, m < l.idxOf p → l[m]? = some z → z ≠ p := by
  have h1 := List.idxOf_lt_length_of_mem h
  refine ⟨by rw [List.getElem?_eq_getElem h1, List.getElem_idxOf], h1, fun m z hm hz e => ?_⟩
  subst e
  have h2 := (List.getElem?_eq_some_iff.mp hz).2
  have h3 : m < l.length := (List.getElem?_eq_some_iff.mp hz).1
  have := List.not_of_lt_findIdx (p := (· == z)) (xs := l) (i := m) hm
  simp [h2] at this
theorem firstR_from {order : List Nat} {there : List Bool} {i m : Nat} (h : order[i]? = some m) : (order.drop i).find? (fun m => there.getD m false) = if there.getD m false = true then some m else (order.drop (i + 1)).find? (fun m => there.getD m false) := by
  have lt := (List.getElem?_eq_some_iff.mp h).1
  have e := (List.getElem?_eq_some_iff.mp h).2
  rw [List.drop_eq_getElem_cons lt, e, List.find?_cons]
  cases there.getD m false <;> rfl
theorem ok_first {f : Addr} {fd : FuncData} (F : Fun K "first_there" "first_there" s_first_there f fd) : FnOk P w K mg base CX0 1 f fd ["order", "there", "spot"] (spFirst K) := by
  refine F.ok sc_first (fun vs H Q E h => ?_) (fun cdv A outer s H vs Q E hr h => ?_)
  · obtain ⟨ol, tl, order, there, spot, rfl, _⟩ := h
    rfl
  · obtain ⟨ol, tl, order, there, spot, rfl, h1, h2, hm, hl, hs, hx, k⟩ := h
    have nd := sc_first.nd
    refine ⟨_, pss_cons (ps_set (i := 3) nd rfl (.inl rfl) (pe_bm PySem.F.plainAttrs_list PySem.F.slot_list_index PySem.F.type_list_index mt_index (pv 0) (pa_cons (pv 2) pa_nil)))
      (pss_cons (ps_while PassesOwn.never (pt_not (pt_val (pe_ix ix_list (pv 1) (pe_ix ix_list (pv 0) (pv 3) (fun _ _ => rfl)) (fun _ _ => rfl)))) (pss_one (ps_aug (i := 3) nd rfl (.inl rfl) pe_int ip_add)))
      (pss_one (ps_ret (pe_ix ix_list (pv 0) (pv 3) (fun _ _ => rfl))))), ?_⟩
    obtain ⟨g1, g2, g3⟩ := idx_nat hs
    have fl : (nV order).all flatV = true := by
      unfold nV
      rw [List.all_map]
      exact List.all_eq_true.mpr fun x _ => rfl
    refine ⟨_, rfl, .inl ⟨rfl, _, h1⟩, _, rfl, ol, nV order, .int (spot : Nat), order.idxOf spot, .int (spot : Nat), rfl, rfl, h1, rfl, fl, nV_get g1, by simp [eqV], fun m z hm2 hz => ?_, ?_⟩
    · obtain ⟨q, hq, rfl⟩ := get_map hz
      have ne := g3 m q hm2 hq
      have : ¬ ((q : Int) = (spot : Int)) := by omega
      simp [eqV, this]
    obtain ⟨m0, hm0, ht0⟩ := hx
    have ex0 : ∃ m, (order.drop (order.idxOf spot)).find? (fun m => there.getD m false) = some m := by
      cases e : (order.drop (order.idxOf spot)).find? (fun m => there.getD m false) with
      | some m => exact ⟨m, rfl⟩
      | none => exact absurd ht0 (by have := List.find?_eq_none.mp e m0 hm0; simpa using this)
    have hf : firstR order there spot = ((order.drop (order.idxOf spot)).find? fun m => there.getD m false).getD 0 := rfl
    obtain ⟨mF, hF⟩ := ex0
    rw [hF] at hf
    refine while_by (fun σ H' => H' = H ∧ ∃ i : Nat, σ = [some (.ref ol), some (.ref tl), some (.int (spot : Nat)), some (.int (i : Nat))] ∧ i < order.length ∧ (order.drop i).find? (fun m => there.getD m false) = some mF) (fun σ _ => match σ with | [_, _, _, some (.int i)] => order.length - i.toNat | _ => 0) ⟨rfl, _, rfl, g2, hF⟩ ?_ ?_
    · rintro σ H' ⟨rfl, i, rfl, hi, hfi⟩
      obtain ⟨m, hmi⟩ := getP (xs := order) (i := i) hi
      have lt := hm m (List.mem_of_getElem? hmi)
      rw [firstR_from hmi] at hfi
      refine ⟨_, rfl, _, rfl, _, rfl, ol, _, _, _, rfl, rfl, h1, atI_nat (nV_get hmi), tl, _, _, _, rfl, rfl, h2, atI_nat (bV_get lt), there.getD m false, rfl, ?_⟩
      cases e : there.getD m false with
      | true =>
        rw [e] at hfi
        cases hfi
        refine iteF ?_
        refine ⟨_, rfl, _, rfl, ol, _, _, _, rfl, rfl, h1, atI_nat (nV_get hmi), ?_⟩
        rw [hf] at k
        exact k
      | false =>
        rw [e] at hfi
        refine iteT ⟨_, rfl, _, _, rfl, rfl, ⟨rfl, i + 1, rfl, ?_, hfi⟩, ?_⟩
        · by_cases c : i + 1 < order.length
          · exact c
          · have hfi : (order.drop (i + 1)).find? (fun m => there.getD m false) = some mF := hfi
            rw [List.drop_eq_nil_of_le (by omega)] at hfi
            cases hfi
        · show order.length - (((i : Nat) : Int) + 1).toNat < order.length - (((i : Nat) : Int)).toNat
          omega
    · intro σ H' Q Q' hQ h
      obtain ⟨v1, e1, v2, e2, v3, e3, p, xs, i, v, a1, a2, a3, a4, p', xs', i', v', b1, b2, b3, b4, c, hc, q⟩ := h
      exact ⟨v1, e1, v2, e2, v3, e3, p, xs, i, v, a1, a2, a3, a4, p', xs', i', v', b1, b2, b3, b4, c, hc, hQ _ _ q⟩
end
end TG

namespace TG
open PySem PySem.Spec PyProof.Rows L2 Gx
/-! ### a table as it stands -/
structure TSt where
  signs : List Str
  order : List Nat
  there : List Bool
  deeds : List Deed
  spots : List Nat
  undone : List (List Nat)
structure TA where
  dx : Addr
  st : Addr
  sg : Addr
  od : Addr
  th : Addr
  dl : Addr
  sp : Addr
  ud : Addr
  da : List Addr
  ua : List Addr
abbrev TA.fs (a : TA) : List (Str × V) := [("style", .ref a.st), ("signs", .ref a.sg), ("order", .ref a.od), ("there", .ref a.th), ("deeds", .ref a.dl), ("spots", .ref a.sp), ("undone", .ref a.ud)]
structure TabC (K : PySem.W.Frag) (B : Addr) : Prop where
  cls : Cls K B
  nStyle : NoAttr K B "style"
  nSigns : NoAttr K B "signs"
  nOrder : NoAttr K B "order"
  nThere : NoAttr K B "there"
  nDeeds : NoAttr K B "deeds"
  nSpots : NoAttr K B "spots"
  nUndone : NoAttr K B "undone"
structure TabD (B : Addr) (H : Hp) (tb : Addr) (a : TA) (S : TSt) : Prop where
  ob : H tb = some (.ins B a.dx a.fs)
  sg : H a.sg = some (.lst (sV S.signs))
  od : H a.od = some (.lst (nV S.order))
  th : H a.th = some (.lst (bV S.there))
  de : DeedsAt H a.dl a.da S.deeds
  sp : H a.sp = some (.lst (nV S.spots))
  ud : H a.ud = some (.lst (a.ua.map V.ref))
  ul : a.ua.length = S.undone.length
  un : ∀ (i : Nat) (u : Addr) (l : List Nat), a.ua[i]? = some u → S.undone[i]? = some l → H u = some (.lst (nV l))
  nd : (a.sp :: a.ud :: a.ua).Nodup
  dj : ∀ c ∈ a.sp :: a.ud :: a.ua, c ≠ a.sg ∧ c ≠ a.od ∧ c ≠ a.th ∧ c ≠ a.dl
/-- what a table may change -/
def ownT (tb : Addr) (a : TA) : Addr → Prop := fun c => c = tb ∨ c = a.sg ∨ c = a.od ∨ c = a.th ∨ c = a.dl ∨ c = a.sp ∨ c = a.ud ∨ c ∈ a.ua
section
variable {B tb : Addr} {H H' : Hp} {a : TA} {S : TSt} {A : Addr → Prop}
theorem TabD.mob (o : TabD B H tb a S) : Mob H (ownT tb a) := fun c hc => by
  rcases hc with e | e | e | e | e | e | e | e
  · exact .inr ⟨_, _, _, e ▸ o.ob⟩
  · exact .inl ⟨_, e ▸ o.sg⟩
  · exact .inl ⟨_, e ▸ o.od⟩
  · exact .inl ⟨_, e ▸ o.th⟩
  · exact .inl ⟨_, e ▸ o.de.lst⟩
  · exact .inl ⟨_, e ▸ o.sp⟩
  · exact .inl ⟨_, e ▸ o.ud⟩
  · obtain ⟨i, hi⟩ := List.mem_iff_getElem?.mp e
    obtain ⟨l, hl⟩ := getP (xs := S.undone) (i := i) (by rw [← o.ul]; exact (List.getElem?_eq_some_iff.mp hi).1)
    exact .inl ⟨_, o.un i c l hi hl⟩
theorem TabD.km (o : TabD B H tb a S) (x : KM A H H') (m : Mob H A) (n : ∀ c, ownT tb a c → ¬ A c) : TabD B H' tb a S := by
  have f : ∀ {c : Addr} {xs : List V}, ownT tb a c → H c = some (.lst xs) → H' c = some (.lst xs) := fun {c xs} hc h => x _ _ h (fun ps z => by cases z) (n c hc)
  exact ⟨x _ _ o.ob (fun ps z => by cases z) (n _ (.inl rfl)), f (.inr (.inl rfl)) o.sg, f (.inr (.inr (.inl rfl))) o.od, f (.inr (.inr (.inr (.inl rfl)))) o.th,
    ⟨f (.inr (.inr (.inr (.inr (.inl rfl))))) o.de.lst, o.de.len, fun i t d h1 h2 => tup_km x m (o.de.at_ i t d h1 h2)⟩, f (.inr (.inr (.inr (.inr (.inr (.inl rfl)))))) o.sp,
    f (.inr (.inr (.inr (.inr (.inr (.inr (.inl rfl))))))) o.ud, o.ul, fun i u l h1 h2 => f (.inr (.inr (.inr (.inr (.inr (.inr (.inr (List.mem_of_getElem? h1)))))))) (o.un i u l h1 h2), o.nd, o.dj⟩
theorem TabD.gw (o : TabD B H tb a S) (x : LamX.ExtN H H') : TabD B H' tb a S := o.km (A := fun _ => False) (KM.of x) (fun c h => h.elim) fun c _ h => h
theorem same_extN {H H' : Hp} (x : Same H H') : LamX.ExtN H H' := fun b o h _ => x b o h
theorem TabD.same (o : TabD B H tb a S) (x : Same H H') : TabD B H' tb a S := o.gw (same_extN x)
/-- one of its lists is written -/
theorem upd_own {c : Addr} {o : HO} (h : ownT tb a c) : KM (ownT tb a) H (upd H c o) := fun b u hb _ n => by rw [upd_ne (fun z => n (by rw [z]; exact h))]; exact hb
theorem upd_ownN {cs : List (Addr × Addr)} {c : Addr} {o : HO} (h : ownT tb a c) : KN cs (ownT tb a) H (upd H c o) := fun b u hb _ n => by rw [upd_ne (fun z => n (by rw [z]; exact h))]; exact hb
theorem TabD.hand (o : TabD B H tb a S) (l : List Nat) : TabD B (upd H a.sp (.lst (nV l))) tb a { S with spots := l } := by
  have d := o.dj a.sp (by simp)
  have nd := o.nd
  rw [List.nodup_cons, List.mem_cons, List.nodup_cons] at nd
  have f : ∀ {c : Addr} {u : HO}, c ≠ a.sp → H c = some u → upd H a.sp (.lst (nV l)) c = some u := fun n h => by rw [upd_ne n]; exact h
  have ft : ∀ {c : Addr} {us : List V}, H c = some (.tup us) → c ≠ a.sp := fun h e => by rw [e, o.sp] at h; cases h
  exact ⟨f (fun e => by have := o.ob; rw [e, o.sp] at this; cases this) o.ob, f d.1.symm o.sg, f d.2.1.symm o.od, f d.2.2.1.symm o.th,
    ⟨f d.2.2.2.symm o.de.lst, o.de.len, fun i t dd h1 h2 => f (ft (o.de.at_ i t dd h1 h2)) (o.de.at_ i t dd h1 h2)⟩, upd_same, f (fun e => nd.1 (.inl e.symm)) o.ud, o.ul,
    fun i u m h1 h2 => f (fun e => nd.1 (.inr (e ▸ List.mem_of_getElem? h1))) (o.un i u m h1 h2), o.nd, o.dj⟩
end
/-! ### what it is for -/
structure TOk (S : TSt) : Prop where
  one : ∀ z ∈ S.signs, z.length ≤ 1
  many : S.signs.length ≤ 9000
  ord : ∀ m ∈ S.order, m < S.signs.length
  ol : S.order.length ≤ 9000
  tl : S.there.length = S.signs.length
  dm : ∀ d ∈ S.deeds, d.2.2.1 < S.signs.length
  dn : S.deeds.length ≤ 9000
  sp : ∀ s ∈ S.spots, s ∈ thoseR S.order S.there
  hn : S.spots.length = S.undone.length
  h4 : S.spots.length ≤ 4
  un : ∀ l ∈ S.undone, l.length ≤ 9000 ∧ ∀ n ∈ l, n < S.deeds.length
abbrev hereR (S : TSt) : List Nat := thoseR S.order S.there
def nearR (S : TSt) (h : Nat) (by_ : Int) : Option Nat :=
  if 0 ≤ (((hereR S).idxOf (S.spots.getD h 0) : Nat) : Int) + by_ ∧ (((hereR S).idxOf (S.spots.getD h 0) : Nat) : Int) + by_ < ((hereR S).length : Nat) then (hereR S)[((((hereR S).idxOf (S.spots.getD h 0) : Nat) : Int) + by_).toNat]? else none
def goR1 (S : TSt) (h : Nat) (by_ : Int) : Bool × TSt := match nearR S h by_ with
  | none => (false, S)
  | some m => (true, { S with spots := S.spots.set h m })
def nonN : Option Nat → V
  | none => .non
  | some n => .int (n : Nat)
theorem hereR_len (S : TSt) : (hereR S).length ≤ S.order.length := List.length_filter_le _ _
theorem hereR_lt {S : TSt} (o : TOk S) : ∀ m ∈ hereR S, m < S.signs.length := fun m hm => o.ord m (List.mem_filter.mp hm).1
theorem nV_len (l : List Nat) : (nV l).length = l.length := by unfold nV; rw [List.length_map]
theorem getD_spot {S : TSt} {h : Nat} (hh : h < S.spots.length) : S.spots[h]? = some (S.spots.getD h 0) := by
  rw [List.getD_eq_getElem?_getD, List.getElem?_eq_getElem hh]
  rfl
theorem tabs_lst {cs : List (Addr × Addr)} {H : Hp} {a : Addr} {us : List V} {o : HO} (t : Tabs cs H) (h : H a = some (.lst us)) : Tabs cs (upd H a o) := fun p hp => by
  obtain ⟨ps, h1, h2⟩ := t p hp
  exact ⟨ps, by rw [upd_ne fun z => by rw [z, h] at h1; cases h1]; exact h1, h2⟩
theorem upd_old {H : Hp} {a : Addr} {u o : HO} (h : H a = some u) {b : Addr} (hb : upd H a o b = none) : H b = none := by
  by_cases z : b = a
  · rw [z, upd_same] at hb; cases hb
  · rw [upd_ne z] at hb; exact hb
theorem ints_flat (l : List Nat) : (nV l).all flatV = true := by
  unfold nV
  rw [List.all_map]
  exact List.all_eq_true.mpr fun x _ => rfl
theorem ints_no {l : List Nat} {p : Nat} (g : ∀ m z, m < l.idxOf p → l[m]? = some z → z ≠ p) (m : Nat) (z : V) (hm : m < l.idxOf p) (hz : (nV l)[m]? = some z) : eqV z (.int (p : Nat)) = false := by
  obtain ⟨q, hq, rfl⟩ := get_map hz
  have ne := g m q hm hq
  have : ¬ ((q : Int) = (p : Int)) := by omega
  simp [eqV, this]
section
variable {P : Program} {w : World} {K : PySem.W.Frag} {mg : Str → Option Value} {base : Heap} {cs : List (Addr × Addr)} {B : Addr}
def spWholeB : Sp := fun vs H Q _ => ∃ (i lo hi : Int), vs = [.int i, .int lo, .int hi] ∧ Q (.bl (decide (lo ≤ i ∧ i ≤ hi))) H
theorem ok_wholeB {f : Addr} {fd : FuncData} (T : Txt mg) (F : Fun K "is_whole" "is_whole" s_is_whole f fd) : FnOk P w K mg base CX0 1 f fd ["value", "low", "high"] spWholeB := by
  refine F.ok sc_whole (fun vs H Q E h => ?_) (fun cdv A outer s H vs Q E hr h => ?_)
  · obtain ⟨i, lo, hi, rfl, _⟩ := h
    rfl
  · obtain ⟨i, lo, hi, rfl, k⟩ := h
    refine ⟨_, pss_one (ps_ret (pe_and (pe_callB call_isi (by rfl) T.isin (by decide +kernel) (pa_cons (pv 0) (pa_cons (pe_bltn (v := .ty "int") (by rfl) T.int (by decide +kernel) rfl) pa_nil)))
      (pe_and (pe_not (pe_callB call_isi (by rfl) T.isin (by decide +kernel) (pa_cons (pv 0) (pa_cons (pe_bltn (v := .ty "bool") (by rfl) T.bool (by decide +kernel) rfl) pa_nil)))) (pe_one (pe_chain op_le op_le (pv 1) (pv 0) (pv 2)))))), ?_⟩
    refine ⟨_, rfl, _, _, _, _, true, rfl, .ty _, .base (.int i), kit_ty (by decide +kernel), true, rfl, iteT ⟨_, rfl, _, _, _, _, false, rfl, .ty _, .base (.int i), kit_ty (by decide +kernel), false, rfl, true, rfl, iteT ⟨_, rfl, _, rfl, lo, i, rfl, rfl, ?_⟩⟩⟩
    by_cases h1 : lo ≤ i
    · refine ⟨true, dT h1, iteT ⟨_, rfl, i, hi, rfl, rfl, ?_⟩⟩
      have e : decide (lo ≤ i ∧ i ≤ hi) = decide (i ≤ hi) := by simp [h1]
      rw [e] at k
      exact k
    · have e : decide (lo ≤ i ∧ i ≤ hi) = false := decide_eq_false fun z => h1 z.1
      rw [e] at k
      exact ⟨false, dF h1, iteF k⟩
/-! ### check_hand -/
def spHand (B : Addr) : Sp := fun vs H Q _ => ∃ (tb : Addr) (h : Nat) (a : TA) (S : TSt), vs = [.ref tb, .int (h : Nat)] ∧ TabD B H tb a S ∧ h < S.spots.length ∧ Q .non H
theorem sc_chand : FnScope ["self", "hand"] ["self", "hand"] (defScope (mth nTable 11)) := ⟨rfl, rfl, rfl, by decide +kernel, rfl, by decide +kernel, by decide +kernel⟩
theorem ok_chand {f g : Addr} {fd fdg : FuncData} (T : Txt mg) (X : TabC K B) (F : Fun K "check_hand" "Table.check_hand" (mth nTable 11) f fd)
    (W : FnOk P w K mg base CX0 1 g fdg ["value", "low", "high"] spWholeB) (kp : PySem.W.keepIn K (.ref g) = true) (bd : Binds K fdg ["value", "low", "high"] []) (mgg : mg "is_whole" = some (.ref g)) : FnOk P w K mg base CX0 2 f fd ["self", "hand"] (spHand B) := by
  refine F.ok sc_chand (fun vs H Q E h => ?_) (fun cdv A outer s H vs Q E hr h => ?_)
  · obtain ⟨tb, h, a, S, rfl, _⟩ := h
    rfl
  · obtain ⟨tb, h, a, S, rfl, hD, hh, k⟩ := h
    refine ⟨_, pss_one (ps_if (pt_not (pt_val (pe_call W hr (by rfl) mgg kp bd .nil pass0 (pa_cons (pv 1) (pa_cons pe_int (pa_cons (pe_op op_sub (pe_callB call_len_seq (by rfl) T.len PySem.boot_len (pa_cons (pe_fld (pv 0) rfl) pa_nil)) pe_int) pa_nil)))))) (pss_one ps_never) pss_nil), ?_⟩
    refine ⟨_, rfl, _, rfl, tb, B, a.dx, _, _, rfl, hD.ob, X.cls, X.nSpots, rfl, a.sp, _, rfl, .inl (SqL.of hD.sp), _, _, rfl, rfl, _, _, _, rfl, true, ?_, iteF k⟩
    rw [nV_len, decide_eq_true ⟨by omega, by omega⟩]
/-! ### present -/
def spPresent (B : Addr) : Sp := fun vs H Q _ => ∃ (tb : Addr) (a : TA) (S : TSt), vs = [.ref tb] ∧ TabD B H tb a S ∧ TOk S ∧ ∀ D, H D = none → Q (.ref D) (upd H D (.lst (nV (hereR S))))
theorem sc_present : FnScope ["self"] ["self"] (defScope (mth nTable 12)) := ⟨rfl, rfl, rfl, by decide +kernel, rfl, by decide +kernel, by decide +kernel⟩
theorem ok_present {f g : Addr} {fd fdg : FuncData} (X : TabC K B) (F : Fun K "present" "Table.present" (mth nTable 12) f fd)
    (G : FnOk P w K mg base CX0 1 g fdg ["order", "there"] (spThose K)) (kp : PySem.W.keepIn K (.ref g) = true) (bd : Binds K fdg ["order", "there"] []) (mgg : mg "those_there" = some (.ref g)) : FnOk P w K mg base CX0 2 f fd ["self"] (spPresent B) := by
  refine F.ok sc_present (fun vs H Q E h => ?_) (fun cdv A outer s H vs Q E hr h => ?_)
  · obtain ⟨tb, a, S, rfl, _⟩ := h
    rfl
  · obtain ⟨tb, a, S, rfl, hD, hO, k⟩ := h
    refine ⟨_, pss_one (ps_ret (pe_call G hr (by rfl) mgg kp bd .nil pass0 (pa_cons (pe_fld (pv 0) rfl) (pa_cons (pe_fld (pv 0) rfl) pa_nil)))), ?_⟩
    exact ⟨_, rfl, tb, B, a.dx, _, _, rfl, hD.ob, X.cls, X.nOrder, rfl, _, rfl, tb, B, a.dx, _, _, rfl, hD.ob, X.cls, X.nThere, rfl, a.od, a.th, S.order, S.there, rfl, SqL.of hD.od, SqL.of hD.th, fun m hm => by rw [hO.tl]; exact hO.ord m hm, by have := hO.ol; omega, k⟩
/-! ### near -/
def spNear (B : Addr) : Sp := fun vs H Q _ => ∃ (tb : Addr) (h : Nat) (by_ : Int) (a : TA) (S : TSt), vs = [.ref tb, .int (h : Nat), .int by_] ∧ TabD B H tb a S ∧ TOk S ∧ h < S.spots.length ∧ ∀ H', Same H H' → Q (nonN (nearR S h by_)) H'
abbrev nmNear : List Str := ["self", "hand", "by", "present", "number"]
theorem sc_near : FnScope nmNear ["self", "hand", "by"] (defScope (mth nTable 13)) := ⟨rfl, rfl, rfl, by decide +kernel, rfl, by decide +kernel, by decide +kernel⟩
theorem ok_near {f g : Addr} {fd fdg : FuncData} (T : Txt mg) (X : TabC K B) (F : Fun K "near" "Table.near" (mth nTable 13) f fd)
    (M : Meth K B "present" g) (G : FnOk P w K mg base CX0 2 g fdg ["self"] (spPresent B)) (bd : Binds K fdg ["self"] []) : FnOk P w K mg base CX0 3 f fd ["self", "hand", "by"] (spNear B) := by
  refine F.ok sc_near (fun vs H Q E h => ?_) (fun cdv A outer s H vs Q E hr h => ?_)
  · obtain ⟨tb, h, by_, a, S, rfl, _⟩ := h
    rfl
  · obtain ⟨tb, h, by_, a, S, rfl, hD, hO, hh, k⟩ := h
    have nd := sc_near.nd
    refine ⟨_, pss_cons (ps_set (i := 3) nd rfl (.inl rfl) (pe_meth0 (pv 0) X.cls M G hr bd .nil pass0))
      (pss_cons (ps_set (i := 4) nd rfl (.inl rfl) (pe_op op_add (pe_bm PySem.F.plainAttrs_list PySem.F.slot_list_index PySem.F.type_list_index mt_index (pv 3) (pa_cons (pe_ix ix_list (pe_fld (pv 0) rfl) (pv 1) (fun _ _ => rfl)) pa_nil)) (pv 2)))
      (pss_cons (ps_if (pt_chain op_le op_lt pe_int (pv 4) (pe_callB call_len_seq (by rfl) T.len PySem.boot_len (pa_cons (pv 3) pa_nil))) (pss_one (ps_ret (pe_ix ix_list (pv 3) (pv 4) (fun _ _ => rfl)))) pss_nil)
      (pss_one (ps_ret pe_non)))), ?_⟩
    refine ⟨_, rfl, tb, a.dx, _, rfl, hD.ob, rfl, tb, a, S, rfl, hD, hO, fun D nD => ?_⟩
    have x1 := same_new (o := .lst (nV (hereR S))) nD
    have hD1 := hD.same x1
    have h1 : upd H D (.lst (nV (hereR S))) D = some (.lst (nV (hereR S))) := upd_same
    generalize upd H D (.lst (nV (hereR S))) = H1 at x1 hD1 h1 ⊢
    have hs := getD_spot hh
    obtain ⟨g1, g2, g3⟩ := idx_nat (hO.sp _ (List.mem_of_getElem? hs))
    refine ⟨_, rfl, .inl ⟨rfl, _, SqL.of h1⟩, _, rfl, tb, B, a.dx, _, _, rfl, hD1.ob, X.cls, X.nSpots, rfl, _, rfl, a.sp, _, _, _, rfl, rfl, SqL.of hD1.sp, atI_nat (nV_get hs), D, nV (hereR S), .int (S.spots.getD h 0 : Nat), (hereR S).idxOf (S.spots.getD h 0), .int (S.spots.getD h 0 : Nat), rfl, rfl, SqL.of h1, rfl, ints_flat _, nV_get g1, by simp [eqV], ints_no g3, ?_⟩
    refine ⟨_, rfl, _, _, rfl, rfl, ?_⟩
    have eb : nearR S h by_ = if 0 ≤ (((hereR S).idxOf (S.spots.getD h 0) : Nat) : Int) + by_ ∧ (((hereR S).idxOf (S.spots.getD h 0) : Nat) : Int) + by_ < ((hereR S).length : Nat) then (hereR S)[((((hereR S).idxOf (S.spots.getD h 0) : Nat) : Int) + by_).toNat]? else none := rfl
    dsimp only
    generalize (((hereR S).idxOf (S.spots.getD h 0) : Nat) : Int) + by_ = n at eb ⊢
    refine ⟨_, rfl, 0, n, rfl, rfl, ?_⟩
    by_cases c1 : 0 ≤ n
    · refine ⟨true, dT c1, iteT ⟨_, rfl, D, _, rfl, .inl (SqL.of h1), n, _, rfl, rfl, ?_⟩⟩
      rw [nV_len]
      by_cases c2 : n < ((hereR S).length : Nat)
      · refine ⟨true, dT c2, iteT ?_⟩
        obtain ⟨m, rfl⟩ := Int.eq_ofNat_of_zero_le c1
        have hm : m < (hereR S).length := by omega
        rw [if_pos ⟨c1, c2⟩] at eb
        have em : ((m : Nat) : Int).toNat = m := rfl
        rw [em] at eb
        obtain ⟨q, hq⟩ := getP (xs := hereR S) (i := m) hm
        refine ⟨_, rfl, _, rfl, D, _, _, .int (q : Nat), rfl, rfl, SqL.of h1, atI_nat (nV_get hq), ?_⟩
        have := k _ x1
        rw [eb, hq] at this
        exact this
      · refine ⟨false, dF c2, iteF ?_⟩
        rw [if_neg fun z => c2 z.2] at eb
        have := k _ x1
        rw [eb] at this
        exact this
    · refine ⟨false, dF c1, iteF ?_⟩
      rw [if_neg fun z => c1 z.1] at eb
      have := k _ x1
      rw [eb] at this
      exact ⟨_, rfl, iteF this⟩
/-! ### go, right -/
/-- what a table does, if it doesn't fail -/
def Went (cs : List (Addr × Addr)) (B : Addr) (H : Hp) (tb : Addr) (a : TA) (S' : TSt) (Q : Hp → Prop) : Prop :=
  ∀ (a' : TA) (H' : Hp), KN cs (ownT tb a) H H' → (∀ c, ownT tb a' c → ownT tb a c ∨ H c = none) → Tabs cs H' → (∀ b, H' b = none → H b = none) → TabD B H' tb a' S' → Q H'
def spGo (cs : List (Addr × Addr)) (B : Addr) : Sp := fun vs H Q _ => ∃ (tb : Addr) (h : Nat) (by_ : Int) (a : TA) (S : TSt), vs = [.ref tb, .int (h : Nat), .int by_] ∧ Tabs cs H ∧ TabD B H tb a S ∧ TOk S ∧ h < S.spots.length ∧ Went cs B H tb a (goR1 S h by_).2 fun H' => Q (.bl (goR1 S h by_).1) H'
abbrev nmGo : List Str := ["self", "hand", "by", "mark"]
theorem sc_go : FnScope nmGo ["self", "hand", "by"] (defScope (mth nTable 14)) := ⟨rfl, rfl, rfl, by decide +kernel, rfl, by decide +kernel, by decide +kernel⟩
theorem ok_go {f g : Addr} {fd fdg : FuncData} (X : TabC K B) (F : Fun K "go" "Table.go" (mth nTable 14) f fd)
    (M : Meth K B "near" g) (G : FnOk P w K mg base CX0 3 g fdg ["self", "hand", "by"] (spNear B)) (bd : Binds K fdg ["self", "hand", "by"] []) : FnOk P w K mg base CX0 4 f fd ["self", "hand", "by"] (spGo cs B) := by
  refine F.ok sc_go (fun vs H Q E h => ?_) (fun cdv A outer s H vs Q E hr h => ?_)
  · obtain ⟨tb, h, by_, a, S, rfl, _⟩ := h
    rfl
  · obtain ⟨tb, h, by_, a, S, rfl, hT, hD, hO, hh, k⟩ := h
    have nd := sc_go.nd
    refine ⟨_, pss_cons (ps_set (i := 3) nd rfl (.inl rfl) (pe_meth (pv 0) X.cls M G hr bd .nil pass0 (pa_cons (pv 1) (pa_cons (pv 2) pa_nil))))
      (pss_cons (ps_if (pt_cmpR op_isN (pv 3) pe_non (nomark _)) (pss_one (ps_ret pe_bl)) pss_nil)
      (pss_cons (ps_asg (pv 3) (pg_sub (pe_fld (pv 0) rfl) (pv 1) set_list)) (pss_one (ps_ret pe_bl)))), ?_⟩
    refine ⟨_, rfl, tb, a.dx, _, rfl, hD.ob, rfl, _, rfl, _, rfl, tb, h, by_, a, S, rfl, hD, hO, hh, fun H1 x1 => ?_⟩
    have hD1 := hD.same x1
    have t1 := (same_ex x1 hT).tab
    unfold goR1 at k
    cases e : nearR S h by_ with
    | none =>
      rw [e] at k
      exact ⟨_, rfl, rfl, true, rfl, iteT (k a H1 (KN.same x1) (fun c hc => .inl hc) t1 (fun b hb => same_old x1 hb) hD1)⟩
    | some m =>
      rw [e] at k
      refine ⟨_, rfl, rfl, false, rfl, iteF ⟨_, rfl, _, rfl, tb, B, a.dx, _, _, rfl, hD1.ob, X.cls, X.nSpots, rfl, _, rfl, a.sp, _, _, h, rfl, rfl, hD1.sp, ixN_nat (by rw [nV_len]; exact hh), ?_⟩⟩
      have es : (nV S.spots).set h (nonN (some m)) = nV (S.spots.set h m) := by unfold nV; rw [List.map_set]; rfl
      dsimp only
      rw [es]
      exact k a _ ((KN.same x1).tr (upd_ownN (.inr (.inr (.inr (.inr (.inr (.inl rfl)))))))) (fun c hc => .inl hc) (tabs_lst t1 hD1.sp) (fun b hb => same_old x1 (upd_old hD1.sp hb)) (hD1.hand _)
def spTRight (cs : List (Addr × Addr)) (B : Addr) : Sp := fun vs H Q _ => ∃ (tb : Addr) (h : Nat) (a : TA) (S : TSt), vs = [.ref tb, .int (h : Nat)] ∧ Tabs cs H ∧ TabD B H tb a S ∧ TOk S ∧ h < S.spots.length ∧ Went cs B H tb a (goR1 S h 1).2 fun H' => Q (.bl (goR1 S h 1).1) H'
theorem sc_tright : FnScope ["self", "hand"] ["self", "hand"] (defScope (mth nTable 6)) := ⟨rfl, rfl, rfl, by decide +kernel, rfl, by decide +kernel, by decide +kernel⟩
theorem ok_tright {f g1 g2 : Addr} {fd fd1 fd2 : FuncData} (X : TabC K B) (F : Fun K "right" "Table.right" (mth nTable 6) f fd)
    (M1 : Meth K B "check_hand" g1) (G1 : FnOk P w K mg base CX0 2 g1 fd1 ["self", "hand"] (spHand B)) (b1 : Binds K fd1 ["self", "hand"] [])
    (M2 : Meth K B "go" g2) (G2 : FnOk P w K mg base CX0 4 g2 fd2 ["self", "hand", "by"] (spGo cs B)) (b2 : Binds K fd2 ["self", "hand", "by"] []) : FnOk P w K mg base CX0 5 f fd ["self", "hand"] (spTRight cs B) := by
  refine F.ok sc_tright (fun vs H Q E h => ?_) (fun cdv A outer s H vs Q E hr h => ?_)
  · obtain ⟨tb, h, a, S, rfl, _⟩ := h
    rfl
  · obtain ⟨tb, h, a, S, rfl, hT, hD, hO, hh, k⟩ := h
    have r2 : Room 2 _ := hr.mono (by decide)
    refine ⟨_, pss_cons (ps_expr (pe_meth (pv 0) X.cls M1 G1 r2 b1 .nil pass0 (pa_cons (pv 1) pa_nil))) (pss_one (ps_ret (pe_meth (pv 0) X.cls M2 G2 hr b2 .nil pass0 (pa_cons (pv 1) (pa_cons pe_int pa_nil))))), ?_⟩
    exact ⟨_, rfl, tb, a.dx, _, rfl, hD.ob, rfl, _, rfl, tb, h, a, S, rfl, hD, hh, _, rfl, tb, a.dx, _, rfl, hD.ob, rfl, _, rfl, tb, h, 1, a, S, rfl, hT, hD, hO, hh, k⟩
end
end TG

namespace TG
open PySem PySem.Spec PyProof.Rows L2 Gx
/-! ### new tuples in a new list -/
structure TupL (H0 : Hp) (D : Addr) (l : List (List V)) (H : Hp) : Prop where
  sm : Same H0 H
  nD : H0 D = none
  ts : ∃ ts : List Addr, H D = some (.lst (ts.map V.ref)) ∧ ts.length = l.length ∧ ∀ (j : Nat) (t : Addr) (v : List V), ts[j]? = some t → l[j]? = some v → H t = some (.tup v)
theorem TupL.start {H0 : Hp} {D : Addr} (n : H0 D = none) : TupL H0 D [] (upd H0 D (.lst [])) := ⟨same_new n, n, [], upd_same, rfl, fun j t v h => by cases h⟩
theorem TupL.grow {H0 H H' : Hp} {D : Addr} {l : List (List V)} (o : TupL H0 D l H) (x : Same H H') : TupL H0 D l H' := by
  obtain ⟨ts, h1, h2, h3⟩ := o.ts
  exact ⟨fun b u e => x b u (o.sm b u e), o.nD, ts, x _ _ h1, h2, fun j t v e1 e2 => x _ _ (h3 j t v e1 e2)⟩
theorem TupL.more {H0 H : Hp} {D t : Addr} {l : List (List V)} {v : List V} (o : TupL H0 D l H) (ht : H t = some (.tup v)) : ∃ acc, H D = some (.lst acc) ∧ acc.length = l.length ∧ TupL H0 D (l ++ [v]) (upd H D (.lst (acc ++ [.ref t]))) := by
  obtain ⟨ts, h1, h2, h3⟩ := o.ts
  have tD : ∀ {t : Addr} {v : List V}, H t = some (.tup v) → t ≠ D := fun {t v} h z => by rw [z, h1] at h; cases h
  refine ⟨_, h1, by rw [List.length_map, h2], fun b u e => by rw [upd_ne (ne_of_none e o.nD)]; exact o.sm b u e, o.nD, ts ++ [t], by rw [upd_same]; simp, by rw [List.length_append, List.length_append, h2]; rfl, fun j s u e1 e2 => ?_⟩
  by_cases hj : j < ts.length
  · rw [List.getElem?_append_left hj] at e1
    rw [List.getElem?_append_left (by rw [← h2]; exact hj)] at e2
    have := h3 j s u e1 e2
    rw [upd_ne (tD this)]
    exact this
  · have hl := (List.getElem?_eq_some_iff.mp e1).1
    rw [List.length_append, List.length_singleton] at hl
    have ej : j = ts.length := by omega
    subst ej
    rw [List.getElem?_append_right (Nat.le_refl _), Nat.sub_self] at e1
    rw [h2, List.getElem?_append_right (Nat.le_refl _), Nat.sub_self] at e2
    cases e1
    cases e2
    rw [upd_ne (tD ht)]
    exact ht
/-! ### places -/
theorem cut_toV {xs : List V} {k : Nat} : cutV xs none (some (k : Int)) = xs.take k := by
  unfold cutV
  rw [HT.sIx_nat, HT.sIx_none, List.drop_zero, Nat.sub_zero]
  by_cases h : k ≤ xs.length
  · rw [Nat.min_eq_left h]
  · rw [Nat.min_eq_right (by omega), List.take_of_length_le (Nat.le_refl _), List.take_of_length_le (show xs.length ≤ k by omega)]
/-- what a table tells of its deeds -/
def toldV (d : Deed) : List V := [.int (d.1 : Nat), .str d.2.1, .bl d.2.2.2]
/-- where a hand stands -/
def atR (S : TSt) (h : Nat) : Nat × Nat × Nat :=
  let R := rowsT (textR S.signs ((hereR S).take ((hereR S).idxOf (S.spots.getD h 0))))
  (R.length - 1, (R.getLast?.getD []).length - 1, ((R.getLast?.getD []).getLast?.getD "").length)
theorem textR_len {signs : List Str} {marks : List Nat} (h1 : ∀ z ∈ signs, z.length ≤ 1) : (textR signs marks).length ≤ marks.length := by
  have e : (textR signs marks).length = ((marks.map fun m => signs.getD m "").map (·.length)).sum := by
    unfold textR
    rw [len_cl, cl_joinL]
    have : ∀ ys : List Str, (TL.joinL (cl "") (ys.map cl)).length = (ys.map (·.length)).sum := by
      intro ys
      induction ys with
      | nil => rfl
      | cons y ys ih =>
        have e0 : cl ("" : Str) = [] := by decide +kernel
        rw [e0] at ih ⊢
        cases ys with
        | nil => simp [TL.joinL, len_cl]
        | cons z zs =>
          have e1 : ((y :: z :: zs).map (·.length)).sum = y.length + ((z :: zs).map (·.length)).sum := by rw [List.map_cons, List.sum_cons]
          rw [e1, ← ih]
          show ((cl y) ++ ([] ++ TL.joinL [] ((z :: zs).map cl))).length = _
          rw [List.nil_append, List.length_append, len_cl]
    exact this _
  rw [e]
  have hs := sum_ones (marks.map fun m => signs.getD m "") fun y hy => by
    obtain ⟨m, hmm, rfl⟩ := List.mem_map.mp hy
    rw [List.getD_eq_getElem?_getD]
    cases q : signs[m]? with
    | none => exact Nat.zero_le _
    | some z => exact h1 z (List.mem_of_getElem? q)
  rw [List.length_map] at hs
  exact hs
theorem rowsAt_last {ps : List Addr} {rows : List (List Str)} {H : Hp} (r : RowsAt ps rows H) (h : 1 ≤ rows.length) : ∃ q, atI (ps.map V.ref) (-1) = some (.ref q) ∧ H q = some (.tup (sV (rows.getLast?.getD []))) := by
  have hl := r.len
  have l1 : ps.length - 1 < ps.length := by omega
  refine ⟨ps[ps.length - 1], ?_, ?_⟩
  · have e : ixN (ps.map V.ref).length (-1) = some (ps.length - 1) := by
      unfold ixN
      rw [List.length_map]
      simp
      omega
    unfold atI
    rw [e]
    show (ps.map V.ref)[ps.length - 1]? = _
    rw [List.getElem?_map, List.getElem?_eq_getElem l1]
    rfl
  · refine r.row (ps.length - 1) _ _ (List.getElem?_eq_getElem l1) ?_
    rw [List.getLast?_eq_getElem?, hl, List.getElem?_eq_getElem (by omega)]
    rfl
theorem atZ_lastT {xs : List Str} (h : 1 ≤ xs.length) : atI (sV xs) (-1) = some (.str (xs.getLast?.getD "")) := by
  have e : ixN (sV xs).length (-1) = some (xs.length - 1) := by
    unfold ixN sV
    rw [List.length_map]
    simp
    omega
  unfold atI
  rw [e]
  show (sV xs)[xs.length - 1]? = _
  unfold sV
  rw [List.getElem?_map, List.getLast?_eq_getElem?, List.getElem?_eq_getElem (by omega)]
  rfl
section
variable {P : Program} {w : World} {K : PySem.W.Frag} {mg : Str → Option Value} {base : Heap} {cs : List (Addr × Addr)} {B : Addr}
/-! ### page -/
def spTPage (cs : List (Addr × Addr)) (B : Addr) : Sp := fun vs H Q _ => ∃ (tb : Addr) (a : TA) (S : TSt), vs = [.ref tb] ∧ Tabs cs H ∧ TabD B H tb a S ∧ TOk S ∧
  ∀ (r : Addr) (ps : List Addr) (H' : Hp), Ex cs H H' → H r = none → H' r = some (.lst (ps.map V.ref)) → RowsAt ps (rowsT (textR S.signs (hereR S))) H' → Q (.ref r) H'
theorem sc_tpage : FnScope ["self"] ["self"] (defScope (mth nTable 8)) := ⟨rfl, rfl, rfl, by decide +kernel, rfl, by decide +kernel, by decide +kernel⟩
theorem ok_tpage {f g1 g2 g3 : Addr} {fd fd1 fd2 fd3 : FuncData} (X : TabC K B) (F : Fun K "page" "Table.page" (mth nTable 8) f fd)
    (M1 : Meth K B "present" g1) (G1 : FnOk P w K mg base CX0 2 g1 fd1 ["self"] (spPresent B)) (b1 : Binds K fd1 ["self"] [])
    (G2 : FnOk P w K mg base CX0 1 g2 fd2 ["signs", "marks"] (spTextOf K)) (k2 : PySem.W.keepIn K (.ref g2) = true) (b2 : Binds K fd2 ["signs", "marks"] []) (m2 : mg "text_of" = some (.ref g2))
    (G3 : FnOk P w K mg base CX0 1 g3 fd3 ["text"] (spRowsOf cs)) (k3 : PySem.W.keepIn K (.ref g3) = true) (b3 : Binds K fd3 ["text"] []) (m3 : mg "rows_of" = some (.ref g3)) : FnOk P w K mg base CX0 3 f fd ["self"] (spTPage cs B) := by
  refine F.ok sc_tpage (fun vs H Q E h => ?_) (fun cdv A outer s H vs Q E hr h => ?_)
  · obtain ⟨tb, a, S, rfl, _⟩ := h
    rfl
  · obtain ⟨tb, a, S, rfl, hT, hD, hO, k⟩ := h
    have r1 : Room 1 _ := hr.mono (by decide)
    refine ⟨_, pss_one (ps_ret (pe_call G3 r1 (by rfl) m3 k3 b3 .nil pass0 (pa_cons (pe_call G2 r1 (by rfl) m2 k2 b2 .nil pass0 (pa_cons (pe_fld (pv 0) rfl) (pa_cons (pe_meth0 (pv 0) X.cls M1 G1 hr b1 .nil pass0) pa_nil))) pa_nil))), ?_⟩
    refine ⟨_, rfl, tb, B, a.dx, _, _, rfl, hD.ob, X.cls, X.nSigns, rfl, _, rfl, tb, a.dx, _, rfl, hD.ob, rfl, tb, a, S, rfl, hD, hO, fun D nD => ?_⟩
    have x1 := same_new (o := .lst (nV (hereR S))) nD
    have hl := hereR_len S
    have ho := hO.ol
    refine ⟨a.sg, D, S.signs, hereR S, rfl, SqL.of (x1 _ _ hD.sg), SqL.of upd_same, hereR_lt hO, by omega, hO.one, fun H2 x2 => ?_⟩
    have e2 := same_ex (same_trans x1 x2) hT
    have tl := textR_len (marks := hereR S) hO.one
    exact ⟨_, rfl, e2.tab, by omega, fun r ps H3 x3 nr hr3 hps => k r ps H3 (e2.trans x3) (e2.old _ nr) hr3 hps⟩
/-! ### at -/
def spTAt (cs : List (Addr × Addr)) (B : Addr) : Sp := fun vs H Q _ => ∃ (tb : Addr) (h : Nat) (a : TA) (S : TSt), vs = [.ref tb, .int (h : Nat)] ∧ Tabs cs H ∧ TabD B H tb a S ∧ TOk S ∧ h < S.spots.length ∧
  ∀ (t : Addr) (H' : Hp), Ex cs H H' → H' t = some (.tup [.int ((atR S h).1 : Nat), .int ((atR S h).2.1 : Nat), .int ((atR S h).2.2 : Nat)]) → Q (.ref t) H'
abbrev nmAt : List Str := ["self", "hand", "present", "rows"]
theorem sc_tat : FnScope nmAt ["self", "hand"] (defScope (mth nTable 7)) := ⟨rfl, rfl, rfl, by decide +kernel, rfl, by decide +kernel, by decide +kernel⟩
theorem rowsT_1 (z : Str) : 1 ≤ (rowsT z).length ∧ ∀ r ∈ rowsT z, 1 ≤ r.length := by
  have ne : ∀ (z y : Str), cl y ≠ [] → Builtin.Str.strKind y = 1 → 1 ≤ (Txt.split z y).length := fun z y h0 h1 => by
    have e := split_clL z y h0 h1
    have : (TL.spl (cl y) 0 [] (cl z)).length = (Txt.split z y).length := by rw [← e, List.length_map]
    rw [← this]
    have g : ∀ (l acc : List Nat) (k : Nat), 1 ≤ (TL.spl (cl y) k acc l).length := by
      intro l
      induction l with
      | nil => intro acc k; cases k <;> simp [TL.spl]
      | cons c r ih =>
        intro acc k
        cases k with
        | zero =>
          unfold TL.spl
          split
          · simp
          · exact ih _ _
        | succ k => unfold TL.spl; exact ih _ _
    exact g _ _ _
  refine ⟨?_, fun r hr => ?_⟩
  · unfold rowsT
    rw [List.length_map]
    exact ne z lineS (by rw [cl_lineS]; decide) kind_line
  · unfold rowsT at hr
    obtain ⟨l, _, rfl⟩ := List.mem_map.mp hr
    exact ne l tabS (by rw [cl_tabS]; decide) kind_tab
theorem rowsT_piece {z : Str} {r : List Str} {x : Str} (hr : r ∈ rowsT z) (hx : x ∈ r) : x.length ≤ z.length := by
  unfold rowsT at hr
  obtain ⟨l, hl, rfl⟩ := List.mem_map.mp hr
  have h1 := split_pieceL (by rw [cl_lineS]; decide) kind_line hl
  have h2 := split_pieceL (by rw [cl_tabS]; decide) kind_tab hx
  omega
theorem ok_tat {f g0 g1 g2 g3 : Addr} {fd fd0 fd1 fd2 fd3 : FuncData} (T : Txt mg) (X : TabC K B) (F : Fun K "at" "Table.at" (mth nTable 7) f fd)
    (M0 : Meth K B "check_hand" g0) (G0 : FnOk P w K mg base CX0 2 g0 fd0 ["self", "hand"] (spHand B)) (b0 : Binds K fd0 ["self", "hand"] [])
    (M1 : Meth K B "present" g1) (G1 : FnOk P w K mg base CX0 2 g1 fd1 ["self"] (spPresent B)) (b1 : Binds K fd1 ["self"] [])
    (G2 : FnOk P w K mg base CX0 1 g2 fd2 ["signs", "marks"] (spTextOf K)) (k2 : PySem.W.keepIn K (.ref g2) = true) (b2 : Binds K fd2 ["signs", "marks"] []) (m2 : mg "text_of" = some (.ref g2))
    (G3 : FnOk P w K mg base CX0 1 g3 fd3 ["text"] (spRowsOf cs)) (k3 : PySem.W.keepIn K (.ref g3) = true) (b3 : Binds K fd3 ["text"] []) (m3 : mg "rows_of" = some (.ref g3)) : FnOk P w K mg base CX0 3 f fd ["self", "hand"] (spTAt cs B) := by
  refine F.ok sc_tat (fun vs H Q E h => ?_) (fun cdv A outer s H vs Q E hr h => ?_)
  · obtain ⟨tb, h, a, S, rfl, _⟩ := h
    rfl
  · obtain ⟨tb, h, a, S, rfl, hT, hD, hO, hh, k⟩ := h
    have nd := sc_tat.nd
    have r1 : Room 1 _ := hr.mono (by decide)
    refine ⟨_, pss_cons (ps_expr (pe_meth (pv 0) X.cls M0 G0 hr b0 .nil pass0 (pa_cons (pv 1) pa_nil)))
      (pss_cons (ps_set (i := 2) nd rfl (.inl rfl) (pe_meth0 (pv 0) X.cls M1 G1 hr b1 .nil pass0))
      (pss_cons (ps_set (i := 3) nd rfl (.inl rfl) (pe_call G3 r1 (by rfl) m3 k3 b3 .nil pass0 (pa_cons (pe_call G2 r1 (by rfl) m2 k2 b2 .nil pass0 (pa_cons (pe_fld (pv 0) rfl)
        (pa_cons (pe_slice sl_list (pv 2) po_none (po_some (pe_bm PySem.F.plainAttrs_list PySem.F.slot_list_index PySem.F.type_list_index mt_index (pv 2) (pa_cons (pe_ix ix_list (pe_fld (pv 0) rfl) (pv 1) (fun _ _ => rfl)) pa_nil)))) pa_nil))) pa_nil)))
      (pss_one (ps_ret (pe_tup (pa_cons (pe_op op_sub (pe_callB call_len_seq (by rfl) T.len PySem.boot_len (pa_cons (pv 3) pa_nil)) pe_int)
        (pa_cons (pe_op op_sub (pe_callB call_len_seq (by rfl) T.len PySem.boot_len (pa_cons (pe_ix ix_list (pv 3) (pe_un un_neg pe_int) (fun _ _ => rfl)) pa_nil)) pe_int)
        (pa_cons (pe_callB call_len_str (by rfl) T.len PySem.boot_len (pa_cons (pe_ix ix_tup (pe_ix ix_list (pv 3) (pe_un un_neg pe_int) (fun _ _ => rfl)) (pe_un un_neg pe_int) (fun _ _ => rfl)) pa_nil)) pa_nil)))))))), ?_⟩
    refine ⟨_, rfl, tb, a.dx, _, rfl, hD.ob, rfl, _, rfl, tb, h, a, S, rfl, hD, hh, _, rfl, tb, a.dx, _, rfl, hD.ob, rfl, tb, a, S, rfl, hD, hO, fun D nD => ?_⟩
    have x1 := same_new (o := .lst (nV (hereR S))) nD
    have hD1 := hD.same x1
    have h1 : upd H D (.lst (nV (hereR S))) D = some (.lst (nV (hereR S))) := upd_same
    generalize upd H D (.lst (nV (hereR S))) = H1 at x1 hD1 h1 ⊢
    have hl := hereR_len S
    have ho := hO.ol
    have hs := getD_spot hh
    obtain ⟨g1', g2', g3'⟩ := idx_nat (hO.sp _ (List.mem_of_getElem? hs))
    refine ⟨_, rfl, tb, B, a.dx, _, _, rfl, hD1.ob, X.cls, X.nSigns, rfl, _, rfl, _, rfl, .inl ⟨rfl, _, SqL.of h1⟩, _, rfl, tb, B, a.dx, _, _, rfl, hD1.ob, X.cls, X.nSpots, rfl, _, rfl, a.sp, _, _, _, rfl, rfl, SqL.of hD1.sp, atI_nat (nV_get hs), D, nV (hereR S), .int (S.spots.getD h 0 : Nat), (hereR S).idxOf (S.spots.getD h 0), .int (S.spots.getD h 0 : Nat), rfl, rfl, SqL.of h1, rfl, ints_flat _, nV_get g1', by simp [eqV], ints_no g3', ?_⟩
    refine ⟨_, rfl, D, _, rfl, SqL.of h1, fun p np => ?_⟩
    rw [cut_toV]
    have e1 : (nV (hereR S)).take ((hereR S).idxOf (S.spots.getD h 0)) = nV ((hereR S).take ((hereR S).idxOf (S.spots.getD h 0))) := by unfold nV; rw [List.map_take]
    rw [e1]
    have hR : atR S h = ((rowsT (textR S.signs ((hereR S).take ((hereR S).idxOf (S.spots.getD h 0))))).length - 1, ((rowsT (textR S.signs ((hereR S).take ((hereR S).idxOf (S.spots.getD h 0))))).getLast?.getD []).length - 1, (((rowsT (textR S.signs ((hereR S).take ((hereR S).idxOf (S.spots.getD h 0))))).getLast?.getD []).getLast?.getD "").length) := rfl
    have lm : ∀ m ∈ (hereR S).take ((hereR S).idxOf (S.spots.getD h 0)), m < S.signs.length := fun m hm => hereR_lt hO m (List.mem_of_mem_take hm)
    have ll : ((hereR S).take ((hereR S).idxOf (S.spots.getD h 0))).length ≤ 9000 := by rw [List.length_take]; omega
    generalize (hereR S).take ((hereR S).idxOf (S.spots.getD h 0)) = ms at hR lm ll ⊢
    have x2 := same_new (o := .lst (nV ms)) np
    refine ⟨a.sg, p, S.signs, ms, rfl, SqL.of (x2 _ _ hD1.sg), SqL.of upd_same, lm, by omega, hO.one, fun H3 x3 => ?_⟩
    have e3 := same_ex (same_trans x1 (same_trans x2 x3)) hT
    have tl := textR_len (marks := ms) hO.one
    refine ⟨_, rfl, e3.tab, by omega, fun r ps H4 x4 nr hr4 hps => ?_⟩
    obtain ⟨r1', r2'⟩ := rowsT_1 (textR S.signs ms)
    obtain ⟨q, hq1, hq2⟩ := rowsAt_last hps r1'
    have hlast : (rowsT (textR S.signs ms)).getLast?.getD [] ∈ rowsT (textR S.signs ms) := by
      cases e : (rowsT (textR S.signs ms)).getLast? with
      | none => rw [List.getLast?_eq_none_iff.mp e] at r1'; simp at r1'
      | some x => exact List.mem_of_getLast? e
    have r3' := r2' _ hlast
    have r4' : ((((rowsT (textR S.signs ms)).getLast?.getD [])).getLast?.getD "").length ≤ 9000 := by
      cases e : ((rowsT (textR S.signs ms)).getLast?.getD []).getLast? with
      | none => exact Nat.zero_le _
      | some x =>
        have := rowsT_piece hlast (List.mem_of_getLast? e)
        show x.length ≤ 9000
        omega
    have hk := k
    rw [hR] at hk
    generalize rowsT (textR S.signs ms) = R at hps r1' hk hq2 r3' r4'
    have szl : (9000 : Nat) < sizeLine := by decide
    have pl := hps.len
    refine ⟨_, rfl, r, _, rfl, .inl (SqL.of hr4), _, _, rfl, rfl, _, rfl, 1, rfl, r, _, _, _, rfl, rfl, SqL.of hr4, hq1, q, _, rfl, .inr (SqT.of hq2), _, _, rfl, rfl, _, rfl, 1, rfl, r, _, _, _, rfl, rfl, SqL.of hr4, hq1, 1, rfl, q, _, _, _, rfl, rfl, SqT.of hq2, atZ_lastT r3', _, rfl, ?_, by show 3 ≤ sizeLine; decide, fun t nt => ?_⟩
    · omega
    · refine hk t _ (e3.trans (x4.trans (Ex.laid x4.tab nt))) ?_
      rw [upd_same]
      have f1 : (((ps.map V.ref).length : Nat) : Int) - 1 = ((R.length - 1 : Nat) : Int) := by rw [List.length_map]; omega
      have f2 : (((sV (R.getLast?.getD [])).length : Nat) : Int) - 1 = (((R.getLast?.getD []).length - 1 : Nat) : Int) := by unfold sV; rw [List.length_map]; omega
      dsimp only
      rw [f1, f2]
/-! ### told -/
def spTTold (B : Addr) : Sp := fun vs H Q _ => ∃ (tb : Addr) (a : TA) (S : TSt), vs = [.ref tb] ∧ TabD B H tb a S ∧ TOk S ∧ ∀ (D : Addr) (H' : Hp), TupL H D (S.deeds.map toldV) H' → Q (.ref D) H'
abbrev nmTold2 : List Str := ["self", "hand", "sign", "mark", "stands"]
theorem sc_ttold : FnScope nmTold2 ["self"] (defScope (mth nTable 10)) := ⟨rfl, rfl, rfl, by decide +kernel, rfl, by decide +kernel, by decide +kernel⟩
theorem ok_ttold {f : Addr} {fd : FuncData} (X : TabC K B) (F : Fun K "told" "Table.told" (mth nTable 10) f fd) : FnOk P w K mg base CX0 1 f fd ["self"] (spTTold B) := by
  refine F.ok sc_ttold (fun vs H Q E h => ?_) (fun cdv A outer s H vs Q E hr h => ?_)
  · obtain ⟨tb, a, S, rfl, _⟩ := h
    rfl
  · obtain ⟨tb, a, S, rfl, hD, hO, k⟩ := h
    have nd := sc_ttold.nd
    have szl : (9000 : Nat) < sizeLine := by decide
    refine ⟨_, pss_one (ps_ret (pe_lc (own := [("hand", 1), ("sign", 2), ("mark", 3), ("stands", 4)]) (g := gTup K 4 (gCons (gName 1) (gCons (gName 2) (gCons (gName 3) (gCons (gName 4) gNil))))) (tt := tYes) rfl nd (pi_list (pe_fld (pv 0) rfl)) (blkOk_by (own := [("hand", 1), ("sign", 2), ("mark", 3), ("stands", 4)]) (N := nmTold2) (sc := defScope (mth nTable 10)) (by decide +kernel))
      (fun _ _ _ _ _ => pg_tup rfl (pgs_cons (pg_name (i := 1) nd rfl (.inl rfl) (.inr rfl)) (pgs_cons (pg_name (i := 2) nd rfl (.inl rfl) (.inr rfl)) (pgs_cons (pg_name (i := 3) nd rfl (.inl rfl) (.inr rfl)) (pgs_cons (pg_name (i := 4) nd rfl (.inl rfl) (.inr rfl)) pgs_nil))))) (fun _ _ _ _ _ => pts_nil)
      (fun _ _ _ _ _ => pe_tup (pa_cons (pv 1) (pa_cons (pv 2) (pa_cons (pv 4) pa_nil)))))), ?_⟩
    refine ⟨_, rfl, tb, B, a.dx, _, _, rfl, hD.ob, X.cls, X.nDeeds, rfl, a.dl, rfl, ⟨_, SqL.of hD.de.lst⟩, fun D nD => lc_list (xs := a.da.map V.ref) (fun i H' => TupL H D ((S.deeds.take i).map toldV) H') (TupL.start nD) (fun i H' _ o => SqL.of (o.sm _ _ hD.de.lst)) ?_ ?_⟩
    · rintro i x H1 hx o
      obtain ⟨t, ht, rfl⟩ := get_map hx
      obtain ⟨d, hd⟩ := getP (xs := S.deeds) (i := i) (by rw [← hD.de.len]; exact (List.getElem?_eq_some_iff.mp ht).1)
      have h3 := o.sm _ _ (hD.de.at_ i t d ht hd)
      have li := (List.getElem?_eq_some_iff.mp hd).1
      have dn := hO.dn
      refine ⟨t, _, rfl, .inl (.inl h3), rfl, _, _, rfl, _, _, rfl, _, _, rfl, _, _, rfl, rfl, rfl, _, rfl, _, rfl, _, rfl, by show 3 ≤ sizeLine; decide, fun p np => ?_⟩
      have o4 := o.grow (same_new (o := .tup [.int (d.1 : Nat), .str d.2.1, .bl d.2.2.2]) np)
      obtain ⟨acc, q1, q2, q3⟩ := o4.more (t := p) (v := toldV d) upd_same
      refine ⟨acc, q1, by rw [q2, List.length_map, List.length_take]; omega, ?_⟩
      rw [List.take_add_one, hd, Option.toList_some, List.map_append]
      exact q3
    · rintro H1 o
      have e : S.deeds.take (a.da.map V.ref).length = S.deeds := List.take_of_length_le (by rw [List.length_map, hD.de.len]; exact Nat.le_refl _)
      rw [e] at o
      exact k D H1 o
end
end TG

namespace TG
open PySem PySem.Spec PyProof.Rows L2 Gx
/-! ### what is told of a def, told otherwise -/
section
variable {P : Program} {w : World} {K : PySem.W.Frag} {mg : Str → Option Value} {base : Heap} {k : Nat} {f : Addr} {fd : FuncData} {ps : List Str} {sp sp1 sp2 : Sp}
/-- a def that may raise, where it doesn't -/
def noE (sp : Sp) : Sp := fun vs H Q _ => sp vs H Q fun _ _ _ => False
theorem fn0_of (F : FnOk P w K mg base (L2.CX P w) k f fd ps sp) : FnOk P w K mg base CX0 k f fd ps (noE sp) := by
  refine ⟨fun vs H Q E h => F.len vs H Q _ h, fun A outer s H args us vs Q E hr e0 b r h => ?_⟩
  refine codeAny_mono (F.run A outer s H args us vs Q (fun _ _ _ => False) hr e0 b r h) fun r' s' hq => ?_
  cases r' with
  | error er =>
    obtain ⟨a, B, H', cls, d, _, _, _, _, _, _, _, z⟩ := hq
    exact z.elim
  | ok fl =>
    cases fl with
    | ret u => exact hq
    | next => exact hq
    | brk => exact False.elim hq
    | cont => exact False.elim hq
def orSp (sp1 sp2 : Sp) : Sp := fun vs H Q E => sp1 vs H Q E ∨ sp2 vs H Q E
theorem fn_or {CX : L2.CXT} (F1 : FnOk P w K mg base CX k f fd ps sp1) (F2 : FnOk P w K mg base CX k f fd ps sp2) : FnOk P w K mg base CX k f fd ps (orSp sp1 sp2) := by
  refine ⟨fun vs H Q E h => h.elim (F1.len vs H Q E) (F2.len vs H Q E), fun A outer s H args us vs Q E hr e0 b r h => ?_⟩
  rcases h with h | h
  · exact F1.run A outer s H args us vs Q E hr e0 b r h
  · exact F2.run A outer s H args us vs Q E hr e0 b r h
end
end TG

namespace TG
open PySem PySem.Spec PyProof.Rows L2 NdefX GenW Gx Lv
/-! ### methods that may raise -/
def tMethS (C : Addr) (m : Str) (sp : Sp) (E : L2.St → XK) (ta : TE) (t : L2.TA) : TE := fun σ H Q => ta σ H fun x H1 => ∃ a dx fs, x = .ref a ∧ H1 a = some (.ins C dx fs) ∧ fs.lookup m = none ∧ t σ H1 fun vs H2 => sp (.ref a :: vs) H2 Q (E σ)
section
variable {X : Cx} {CX : CXT} {k : Nat} {f C : Addr} {fd : FuncData} {ps : List Str} {sp : Sp} {E : L2.St → XK} {x m : Str} {p pos apos : Pos} {e o : Expr} {es : List Expr} {ta : TE} {t : L2.TA}
theorem pe_methS {pl : Sem Bool} (he : PE X o ta) (c : Cls X.K C) (hm : Meth X.K C m f) (F : FnOk X.prog X.w X.K X.mg X.base CX k f fd ps sp) (hr : Room k X.A) (hb : Binds X.K fd ps []) (hx : ∀ σ, PassesAt CX X σ (E σ)) (ha : PA X (e :: es) t)
    (hst : starEach (e :: es) X.env = (false, eval e X.env) :: starEach es X.env := by rfl) (hpl : (backTo pos (starEach es X.env)).any (·.1) = false := by rfl)
    (ht : eval (.Call (.Attribute o m apos) (e :: es) [] pos) X.env = (do
      let ov ← eval o X.env
      standAt apos.atName
      let (f, first) ← holding [ov] (getMethod ov m pl)
      callWith pos f first (backTo pos (starEach (e :: es) X.env)) (backToKw pos (keywordEach [] X.env))) := by rfl) :
    PE X (.Call (.Attribute o m apos) (e :: es) [] pos) (tMethS C m sp E ta t) := by
  refine ⟨fun pins s σ H Q I h => ?_⟩
  refine PySem.W.methodCall_KW (pl := pl) (thn (he.run pins s σ H _ I h) fun u s1 ⟨x, H1, I1, rx, a, dx, fs, ex, ea, l, q⟩ => ?_) ht
  subst ex
  obtain rfl : u = Value.ref a := rx
  refine getmeth_ok I1 ea c hm l ?_
  refine PySem.W.callWith_K (first := [.ref a]) (h₀ := X.base) I.ok.mod.kin hm.kp (thn (ha.run pos pins s1 σ H1 _ I1 q) fun us s2 ⟨vs, H2, I2, r, q2⟩ => ⟨I2.kIn, ?_⟩) hst hpl
  exact run_fnS (us := .ref a :: us) (vs := .ref a :: vs) F hr hb (hx σ) I2 (.cons rfl r) q2
end
end TG

namespace TG
open PySem PySem.Spec PyProof.Rows L2 Gx
structure ErrC (K : PySem.W.Frag) (mg : Str → Option Value) (x : Str) (C G : Addr) : Prop where
  mg_ : mg x = some (.ref C)
  exc : PySem.W.excIn K C [.type "ValueError", .type "Exception", .type "BaseException", .type "object"] "ValueError.__new__" = true
  kp : PySem.W.keepIn K (.ref C) = true
  sub : PySem.W.subIn K (.ref C) (.type "BaseException") = some true
  ty : PySem.W.typeIn K (.ref C) = some (.type "type")
  up : PySem.W.exmOne K (.ref C) (.ref G) = some true
/-! ### settle -/
def settleR (S : TSt) (signs : List Str) (order : List Nat) (deeds : List Deed) : TSt :=
  { S with signs := signs, order := order, deeds := deeds, there := thereR signs.length deeds, spots := S.spots.map (firstR order (thereR signs.length deeds)) }
structure SetOk (S : TSt) (signs : List Str) (order : List Nat) (deeds : List Deed) : Prop where
  one : ∀ z ∈ signs, z.length ≤ 1
  many : signs.length ≤ 9000
  ord : ∀ m ∈ order, m < signs.length
  ol : order.length ≤ 9000
  dm : ∀ d ∈ deeds, d.2.2.1 < signs.length
  dn : deeds.length ≤ 9000
  sp : ∀ s ∈ S.spots, s ∈ order ∧ ∃ m ∈ order.drop (order.idxOf s), (thereR signs.length deeds).getD m false = true
  pg : PgOk (rowsT (textR signs (thoseR order (thereR signs.length deeds))))
  h4 : S.spots.length ≤ 4
/-- what is there, as a page -/
abbrev pageR (signs : List Str) (order : List Nat) (deeds : List Deed) : List (List Str) := rowsT (textR signs (thoseR order (thereR signs.length deeds)))
structure SetPre (S : TSt) (signs : List Str) (order : List Nat) (deeds : List Deed) : Prop where
  one : ∀ z ∈ signs, z.length ≤ 1
  many : signs.length ≤ 9000
  ord : ∀ m ∈ order, m < signs.length
  ol : order.length ≤ 9000
  dm : ∀ d ∈ deeds, d.2.2.1 < signs.length
  dn : deeds.length ≤ 9000
  sp : ∀ s ∈ S.spots, s ∈ order ∧ ∃ m ∈ order.drop (order.idxOf s), (thereR signs.length deeds).getD m false = true
  sg : TxtSg (textR signs (thoseR order (thereR signs.length deeds)))
  h4 : S.spots.length ≤ 4
theorem firstR_mem {order : List Nat} {there : List Bool} {s : Nat} (h : ∃ m ∈ order.drop (order.idxOf s), there.getD m false = true) : firstR order there s ∈ thoseR order there := by
  obtain ⟨m, hm, ht⟩ := h
  unfold firstR
  cases e : (order.drop (order.idxOf s)).find? (fun m => there.getD m false) with
  | none => exact absurd ht (by have := List.find?_eq_none.mp e m hm; simpa using this)
  | some x =>
    exact List.mem_filter.mpr ⟨List.mem_of_mem_drop (List.mem_of_find?_eq_some e), List.find?_some (p := fun m => there.getD m false) e⟩
theorem SetOk.tok {S : TSt} {signs : List Str} {order : List Nat} {deeds : List Deed} (h : SetOk S signs order deeds) (o : TOk S) (hl : S.deeds.length ≤ deeds.length) : TOk (settleR S signs order deeds) :=
  ⟨h.one, h.many, h.ord, h.ol, thereR_len _ _, h.dm, h.dn, fun s hs => by
    obtain ⟨s0, h0, rfl⟩ := List.mem_map.mp hs
    exact firstR_mem (h.sp s0 h0).2, by show (S.spots.map _).length = _; rw [List.length_map]; exact o.hn, by show (S.spots.map _).length ≤ 4; rw [List.length_map]; exact o.h4, fun l hl2 => ⟨(o.un l hl2).1, fun n hn => Nat.lt_of_lt_of_le ((o.un l hl2).2 n hn) hl⟩⟩
section
variable {P : Program} {w : World} {K : PySem.W.Frag} {mg : Str → Option Value} {base : Heap} {cs : List (Addr × Addr)} {B : Addr}
abbrev setA (a : TA) (sg od th dl sp : Addr) (da : List Addr) : TA := { a with sg := sg, od := od, th := th, dl := dl, sp := sp, da := da }
theorem fs4 (a : TA) (sg od th dl : Addr) : putF "there" (.ref th) (putF "deeds" (.ref dl) (putF "order" (.ref od) (putF "signs" (.ref sg) a.fs))) = TA.fs { a with sg := sg, od := od, dl := dl, th := th } := by
  simp only [TA.fs, putF]
  rfl
theorem fs5 (a : TA) (sp : Addr) : putF "spots" (.ref sp) a.fs = TA.fs { a with sp := sp } := by
  simp only [TA.fs, putF]
  rfl
def spSettle (cs : List (Addr × Addr)) (B C : Addr) : Sp := fun vs H Q E => ∃ (tb sg od dl : Addr) (a : TA) (S : TSt) (signs : List Str) (order : List Nat) (deeds : List Deed) (da : List Addr), vs = [.ref tb, .ref sg, .ref od, .ref dl] ∧ Tabs cs H ∧ TabD B H tb a S ∧
  H sg = some (.lst (sV signs)) ∧ H od = some (.lst (nV order)) ∧ DeedsAt H dl da deeds ∧ (∀ c ∈ a.ud :: a.ua, c ≠ sg ∧ c ≠ od ∧ c ≠ dl) ∧ SetPre S signs order deeds ∧
  (PgOk (pageR signs order deeds) →
  ∀ (th sp : Addr) (H' : Hp), H th = none → H sp = none → (∀ c o, H c = some o → NT cs c o → c ≠ tb → H' c = some o) → Tabs cs H' → (∀ b, H' b = none → H b = none) → TabD B H' tb (setA a sg od th dl sp da) (settleR S signs order deeds) → Q .non H') ∧
  (¬ PgOk (pageR signs order deeds) → ∀ H', Ex cs H H' → E (.ref C) none H')
abbrev nmSet : List Str := ["self", "signs", "order", "deeds", "there", "rows", "spot"]
theorem sc_settle : FnScope nmSet ["self", "signs", "order", "deeds"] (defScope (mth nTable 16)) := ⟨rfl, rfl, rfl, by decide +kernel, rfl, by decide +kernel, by decide +kernel⟩
theorem pageAt_of {r : Addr} {ps : List Addr} {rows : List (List Str)} {H : Hp} (h : H r = some (.lst (ps.map V.ref))) (p : RowsAt ps rows H) : PageAt K H r ps rows := ⟨SqL.of h, p.len, fun i q z h1 h2 => SqT.of (p.row i q z h1 h2)⟩
theorem ok_settle {C G : Addr} {f g1 g2 g3 g4 g5 g6 : Addr} {fd fd1 fd2 fd3 fd4 fd5 fd6 : FuncData} (T : Txt mg) (Er : ErrC K mg "TooMuch" C G) (X : TabC K B) (F : Fun K "settle" "Table.settle" (mth nTable 16) f fd)
    (G1 : FnOk P w K mg base CX0 1 g1 fd1 ["many", "deeds"] (spMarks K)) (k1 : PySem.W.keepIn K (.ref g1) = true) (b1 : Binds K fd1 ["many", "deeds"] []) (m1 : mg "marks_there" = some (.ref g1))
    (G2 : FnOk P w K mg base CX0 1 g2 fd2 ["order", "there"] (spThose K)) (k2 : PySem.W.keepIn K (.ref g2) = true) (b2 : Binds K fd2 ["order", "there"] []) (m2 : mg "those_there" = some (.ref g2))
    (G3 : FnOk P w K mg base CX0 1 g3 fd3 ["signs", "marks"] (spTextOf K)) (k3 : PySem.W.keepIn K (.ref g3) = true) (b3 : Binds K fd3 ["signs", "marks"] []) (m3 : mg "text_of" = some (.ref g3))
    (G4 : FnOk P w K mg base CX0 1 g4 fd4 ["text"] (spRowsOf cs)) (k4 : PySem.W.keepIn K (.ref g4) = true) (b4 : Binds K fd4 ["text"] []) (m4 : mg "rows_of" = some (.ref g4))
    (G5 : FnOk P w K mg base CX0 10 g5 fd5 ["rows"] (orSp (spCheck K cs) (spMisB K cs))) (k5 : PySem.W.keepIn K (.ref g5) = true) (b5 : Binds K fd5 ["rows"] []) (m5 : mg "first_misfit" = some (.ref g5))
    (G6 : FnOk P w K mg base CX0 1 g6 fd6 ["order", "there", "spot"] (spFirst K)) (k6 : PySem.W.keepIn K (.ref g6) = true) (b6 : Binds K fd6 ["order", "there", "spot"] []) (m6 : mg "first_there" = some (.ref g6)) :
    FnOk P w K mg base (L2.CX P w) 11 f fd ["self", "signs", "order", "deeds"] (spSettle cs B C) := by
  refine F.okX sc_settle (fun vs H Q E h => ?_) (fun cdv A outer s H vs Q E hr h => ?_)
  · obtain ⟨tb, sg, od, dl, a, S, signs, order, deeds, da, rfl, _⟩ := h
    rfl
  · obtain ⟨tb, sg, od, dl, a, S, signs, order, deeds, da, rfl, hT, hD, hsg, hod, hdl, hn, hO, k, kx⟩ := h
    have nd := sc_settle.nd
    have r1 : Room 1 _ := hr.mono (by decide)
    refine ⟨_, pss_cons (ps_set (i := 4) nd rfl (.inr rfl) (pe_call G1 r1 (by rfl) m1 k1 b1 .nil pass0 (pa_cons (pe_callB call_len_seq (by rfl) T.len PySem.boot_len (pa_cons (pv 1) pa_nil)) (pa_cons (pv 3) pa_nil))))
      (pss_cons (ps_set (i := 5) nd rfl (.inl rfl) (pe_call G4 r1 (by rfl) m4 k4 b4 .nil pass0 (pa_cons (pe_call G3 r1 (by rfl) m3 k3 b3 .nil pass0 (pa_cons (pv 1) (pa_cons (pe_call G2 r1 (by rfl) m2 k2 b2 .nil pass0 (pa_cons (pv 2) (pa_cons (pv 4) pa_nil))) pa_nil))) pa_nil)))
      (pss_cons (ps_if (pt_cmpR op_notN (pe_call G5 hr (by rfl) m5 k5 b5 .nil pass0 (pa_cons (pv 5) pa_nil)) pe_non (nomark _)) (pss_one (ps_raise rfl (takes_of rfl rfl rfl rfl) (pmk_own PySem.F.excBase_ValueError Er.exc Er.mg_ Er.kp (raises_own Er.sub Er.ty) rfl))) pss_nil)
      (pss_cons (ps_fld (pv 0) (pv 1) rfl) (pss_cons (ps_fld (pv 0) (pv 2) rfl) (pss_cons (ps_fld (pv 0) (pv 3) rfl) (pss_cons (ps_fld (pv 0) (pv 4) rfl)
      (pss_one (ps_fld (pv 0) (pe_lc (own := [("spot", 6)]) (g := gName 6) (tt := tYes) rfl nd (pi_list (pe_fld (pv 0) rfl)) (blkOk_by (own := [("spot", 6)]) (N := nmSet) (sc := defScope (mth nTable 16)) (by decide +kernel))
        (fun _ _ _ _ _ => pg_name (i := 6) nd rfl (Or.inl rfl)) (fun _ _ _ _ _ => pts_nil) (fun _ _ _ _ _ => pe_call G6 r1 (by rfl) m6 k6 b6 .nil pass0 (pa_cons (pv 2) (pa_cons (pv 4) (pa_cons (pv 6) pa_nil))))) rfl)))))))), ?_⟩
    have hm := hO.many
    have hol := hO.ol
    refine ⟨_, rfl, sg, _, rfl, .inl (SqL.of hsg), _, rfl, signs.length, dl, da, deeds, by simp [sV], hdl, hO.dm, by omega, fun th H1 x1 nth hth => ?_⟩
    have tln := thereR_len signs.length deeds
    have e1 := same_ex x1 hT
    refine ⟨_, rfl, _, rfl, _, rfl, od, th, order, _, rfl, SqL.of (x1 _ _ hod), SqL.of hth, fun m hm => by rw [tln]; exact hO.ord m hm, by omega, fun D nD => ?_⟩
    have x2 := same_new (o := .lst (nV (thoseR order (thereR signs.length deeds)))) nD
    have hl : (thoseR order (thereR signs.length deeds)).length ≤ order.length := List.length_filter_le _ _
    refine ⟨sg, D, signs, _, rfl, SqL.of (x2 _ _ (x1 _ _ hsg)), SqL.of upd_same, fun m hm => hO.ord m (List.mem_filter.mp hm).1, by omega, hO.one, fun H2 x3 => ?_⟩
    have e2 := e1.trans (same_ex (same_trans x2 x3) e1.tab)
    have hth2 := x3 _ _ (x2 _ _ hth)
    have tl := textR_len (marks := thoseR order (thereR signs.length deeds)) hO.one
    refine ⟨_, rfl, e2.tab, by omega, fun r ps H3 x4 nr hr3 hps => ?_⟩
    by_cases pg : PgOk (pageR signs order deeds)
    rotate_left
    · obtain ⟨n, bn⟩ : ∃ n, BadAt (pageR signs order deeds) n := by
        rcases good_or (pageR signs order deeds) with g | g
        · exact absurd (good_pg hO.sg g) pg
        · exact g
      exact ⟨_, rfl, .inr ⟨r, ps, _, n, rfl, x4.tab, pageAt_of hr3 hps, fun q hq => ⟨(rowsT_pos _).2 q hq, fun x hx => (rowsT_sg hO.sg q hq x hx).1, fun x hx => Nat.le_trans (rowsT_sg hO.sg q hq x hx).2 (by omega)⟩, bn, fun H4 x5 => ⟨rfl, true, rfl, iteT (kx pg H4 (e2.trans (x4.trans x5)))⟩⟩⟩
    replace k := k pg
    refine ⟨_, rfl, .inl ⟨r, ps, _, rfl, x4.tab, pageAt_of hr3 hps, pg, fun H4 x5 => ?_⟩⟩
    have e4 := e2.trans (x4.trans x5)
    have hth4 := (x4.trans x5).lst hth2
    have hD4 := hD.gw e4.ext
    have hsg4 := e4.lst hsg
    have hod4 := e4.lst hod
    have hdl4 : DeedsAt H4 dl da deeds := ⟨e4.lst hdl.lst, hdl.len, fun i t d q1 q2 => e4.tup (hdl.at_ i t d q1 q2)⟩
    clear e1 e2 x1 x2 x3 x4 x5 hth hth2 nD
    refine ⟨rfl, false, rfl, iteF ?_⟩
    refine ⟨_, rfl, _, rfl, tb, B, a.dx, _, rfl, hD4.ob, X.cls, X.nSigns, by show 7 < 1000; decide, ?_⟩
    refine ⟨_, rfl, _, rfl, tb, B, a.dx, _, rfl, upd_same, X.cls, X.nOrder, by show 7 < 1000; decide, ?_⟩
    rw [upd_upd]
    refine ⟨_, rfl, _, rfl, tb, B, a.dx, _, rfl, upd_same, X.cls, X.nDeeds, by show 7 < 1000; decide, ?_⟩
    rw [upd_upd]
    refine ⟨_, rfl, _, rfl, tb, B, a.dx, _, rfl, upd_same, X.cls, X.nThere, by show 7 < 1000; decide, ?_⟩
    rw [upd_upd]
    rw [fs4]
    have nt : ∀ {c : Addr} {xs : List V}, H4 c = some (.lst xs) → c ≠ tb := fun h e => by rw [e, hD4.ob] at h; cases h
    have hb5 : upd H4 tb (.ins B a.dx { a with sg := sg, od := od, dl := dl, th := th }.fs) tb = some (.ins B a.dx { a with sg := sg, od := od, dl := dl, th := th }.fs) := upd_same
    have k5' : ∀ c o, H4 c = some o → c ≠ tb → upd H4 tb (.ins B a.dx { a with sg := sg, od := od, dl := dl, th := th }.fs) c = some o := fun c o h n => by rw [upd_ne n]; exact h
    have n5 : ∀ b, upd H4 tb (.ins B a.dx { a with sg := sg, od := od, dl := dl, th := th }.fs) b = none → H4 b = none := fun b hb => upd_old hD4.ob hb
    generalize upd H4 tb (.ins B a.dx { a with sg := sg, od := od, dl := dl, th := th }.fs) = H5 at hb5 k5' n5 ⊢
    refine ⟨_, rfl, tb, B, a.dx, _, _, rfl, hb5, X.cls, X.nSpots, rfl, a.sp, rfl, ⟨_, SqL.of (k5' _ _ hD4.sp (nt hD4.sp))⟩, fun L nL => ?_⟩
    have y5 : ∀ {o : HO}, Same H5 (upd H5 L o) := same_new nL
    refine lc_list (xs := nV S.spots) (fun i H' => H' = upd H5 L (.lst (nV ((S.spots.take i).map (firstR order (thereR signs.length deeds)))))) rfl (fun i H' _ x => by rw [x]; exact SqL.of (y5 _ _ (k5' _ _ hD4.sp (nt hD4.sp)))) ?_ ?_
    · rintro i x H' hx rfl
      obtain ⟨q, hq, rfl⟩ := get_map hx
      obtain ⟨q1, q2⟩ := hO.sp q (List.mem_of_getElem? hq)
      refine ⟨rfl, _, rfl, _, rfl, _, rfl, od, th, order, _, q, rfl, SqL.of (y5 _ _ (k5' _ _ hod4 (nt hod4))), SqL.of (y5 _ _ (k5' _ _ hth4 (nt hth4))), fun m hm => by rw [tln]; exact hO.ord m hm, by omega, q1, q2, _, upd_same, ?_, ?_⟩
      · have := hO.h4
        have szl : (9000 : Nat) < sizeLine := by decide
        rw [nV_len, List.length_map, List.length_take]
        omega
      · rw [upd_upd, List.take_add_one, hq]
        simp [nV]
    · rintro H' rfl
      have e : S.spots.take (nV S.spots).length = S.spots := List.take_of_length_le (by rw [nV_len]; exact Nat.le_refl _)
      rw [e]
      refine ⟨_, rfl, tb, B, a.dx, _, rfl, y5 _ _ hb5, X.cls, X.nSpots, by show 7 < 1000; decide, ?_⟩
      show Q .non (upd (upd H5 L (.lst (nV (S.spots.map (firstR order (thereR signs.length deeds)))))) tb (.ins B a.dx (setA a sg od th dl L da).fs))
      have nLt : L ≠ tb := fun e => by rw [e, hb5] at nL; cases nL
      have k6' : ∀ c o, H4 c = some o → c ≠ tb → upd (upd H5 L (.lst (nV (S.spots.map (firstR order (thereR signs.length deeds)))))) tb (.ins B a.dx (setA a sg od th dl L da).fs) c = some o := fun c o h n => by
        rw [upd_ne n]
        exact y5 _ _ (k5' c o h n)
      have nL4 := n5 L nL
      have ntT : ∀ {c : Addr} {xs : List V}, H4 c = some (.tup xs) → c ≠ tb := fun h e => by rw [e, hD4.ob] at h; cases h
      have nLc : ∀ {c : Addr} {o : HO}, H4 c = some o → L ≠ c := fun h e => by rw [← e, nL4] at h; cases h
      have nthc : ∀ {c : Addr} {o : HO}, H c = some o → c ≠ th := fun h e => by rw [e, nth] at h; cases h
      have nd0 := hD.nd
      rw [List.nodup_cons] at nd0
      have at4 : ∀ c ∈ a.ud :: a.ua, (∃ xs, H c = some (.lst xs)) ∧ ∃ o, H4 c = some o := fun c hc => by
        rcases List.mem_cons.mp hc with e | e
        · exact ⟨⟨_, e ▸ hD.ud⟩, _, e ▸ hD4.ud⟩
        · obtain ⟨i, hi⟩ := List.mem_iff_getElem?.mp e
          obtain ⟨l, hl⟩ := getP (xs := S.undone) (i := i) (by rw [← hD.ul]; exact (List.getElem?_eq_some_iff.mp hi).1)
          exact ⟨⟨_, hD.un i c l hi hl⟩, _, hD4.un i c l hi hl⟩
      refine k th L _ nth (e4.old _ nL4) (fun c o h n m => k6' c o (e4.any h n) m) ?_ (fun b hb => ?_) ?_
      · intro p hp
        obtain ⟨ps', h1, h2⟩ := e4.tab p hp
        exact ⟨ps', k6' _ _ h1 (fun z => by rw [z, hD4.ob] at h1; cases h1), h2⟩
      · refine e4.old b ?_
        cases e' : H4 b with
        | none => rfl
        | some u =>
          by_cases z : b = tb
          · rw [z, upd_same] at hb; cases hb
          · rw [k6' b u e' z] at hb; cases hb
      · refine ⟨upd_same, k6' _ _ hsg4 (nt hsg4), k6' _ _ hod4 (nt hod4), k6' _ _ hth4 (nt hth4), ⟨k6' _ _ hdl4.lst (nt hdl4.lst), hdl4.len, fun i t d q1 q2 => k6' _ _ (hdl4.at_ i t d q1 q2) (ntT (hdl4.at_ i t d q1 q2))⟩, by rw [upd_ne nLt, upd_same]; rfl, k6' _ _ hD4.ud (nt hD4.ud), hD4.ul, fun i u l q1 q2 => k6' _ _ (hD4.un i u l q1 q2) (nt (hD4.un i u l q1 q2)), List.nodup_cons.mpr ⟨fun h => ?_, nd0.2⟩, fun c hc => ?_⟩
        · obtain ⟨_, o, ho⟩ := at4 L h
          exact nLc ho rfl
        · rcases List.mem_cons.mp hc with e' | e'
          · rw [e']
            exact ⟨nLc hsg4, nLc hod4, nLc hth4, nLc hdl4.lst⟩
          · obtain ⟨h1, h2, h3⟩ := hn c e'
            obtain ⟨⟨xs, hx⟩, _⟩ := at4 c e'
            exact ⟨h1, h2, nthc hx, h3⟩
end
end TG

namespace TG
open PySem PySem.Spec PyProof.Rows L2 Gx
/-! ### undone -/
theorem nodup_inj {α : Type} {l : List α} (h : l.Nodup) {i j : Nat} {x : α} (h1 : l[i]? = some x) (h2 : l[j]? = some x) : i = j := by
  rw [List.nodup_iff_pairwise_ne, List.pairwise_iff_getElem] at h
  obtain ⟨a1, b1⟩ := List.getElem?_eq_some_iff.mp h1
  obtain ⟨a2, b2⟩ := List.getElem?_eq_some_iff.mp h2
  rcases Nat.lt_trichotomy i j with c | c | c
  · exact absurd (b1.trans b2.symm) (h i j a1 a2 c)
  · exact c
  · exact absurd (b2.trans b1.symm) (h j i a2 a1 c)
section
variable {B tb : Addr} {H H' : Hp} {a : TA} {S : TSt}
theorem TabD.nth (o : TabD B H tb a S) {h : Nat} (hh : h < S.undone.length) : ∃ u l, a.ua[h]? = some u ∧ S.undone[h]? = some l ∧ H u = some (.lst (nV l)) := by
  obtain ⟨u, hu⟩ := getP (xs := a.ua) (i := h) (by rw [o.ul]; exact hh)
  obtain ⟨l, hl⟩ := getP (xs := S.undone) (i := h) hh
  exact ⟨u, l, hu, hl, o.un h u l hu hl⟩
/-- one of the lists is written -/
theorem TabD.und (o : TabD B H tb a S) {h : Nat} {u : Addr} (hu : a.ua[h]? = some u) (l : List Nat) : TabD B (upd H u (.lst (nV l))) tb a { S with undone := S.undone.set h l } := by
  have mu : u ∈ a.ua := List.mem_of_getElem? hu
  have hlt := (List.getElem?_eq_some_iff.mp hu).1
  have nd := o.nd
  rw [List.nodup_cons, List.mem_cons, List.nodup_cons] at nd
  obtain ⟨d1, d2, d3, d4⟩ := o.dj u (by simp [mu])
  obtain ⟨l0, hl0⟩ := getP (xs := S.undone) (i := h) (by rw [← o.ul]; exact hlt)
  have h0 := o.un h u l0 hu hl0
  have f : ∀ {c : Addr} {x : HO}, c ≠ u → H c = some x → upd H u (.lst (nV l)) c = some x := fun n h => by rw [upd_ne n]; exact h
  have ft : ∀ {c : Addr} {us : List V}, H c = some (.tup us) → c ≠ u := fun h e => by rw [e, h0] at h; cases h
  refine ⟨f (fun e => by have := o.ob; rw [e, h0] at this; cases this) o.ob, f d1.symm o.sg, f d2.symm o.od, f d3.symm o.th, ⟨f d4.symm o.de.lst, o.de.len, fun i t dd h1 h2 => f (ft (o.de.at_ i t dd h1 h2)) (o.de.at_ i t dd h1 h2)⟩,
    f (fun e => nd.1 (.inr (e ▸ mu))) o.sp, f (fun e => nd.2.1 (e ▸ mu)) o.ud, by show _ = (S.undone.set h l).length; rw [List.length_set]; exact o.ul, fun i v m h1 h2 => ?_, o.nd, o.dj⟩
  have h2 : (S.undone.set h l)[i]? = some m := h2
  by_cases e : i = h
  · subst e
    rw [hu] at h1
    cases h1
    rw [List.getElem?_set_self (by rw [← o.ul]; exact hlt)] at h2
    cases h2
    exact upd_same
  · rw [List.getElem?_set_ne (fun z => e z.symm)] at h2
    refine f (fun z => ?_) (o.un i v m h1 h2)
    subst z
    exact e (nodup_inj nd.2.2 h1 hu)
/-- a new list is put in the place of one -/
theorem TabD.und0 (o : TabD B H tb a S) {h : Nat} {n : Addr} {l : List Nat} (hn : H n = some (.lst (nV l))) (hh : h < S.undone.length) (nn : n ≠ a.sp ∧ n ≠ a.ud ∧ n ∉ a.ua) (nm : n ≠ a.sg ∧ n ≠ a.od ∧ n ≠ a.th ∧ n ≠ a.dl) :
    TabD B (upd H a.ud (.lst ((a.ua.set h n).map V.ref))) tb { a with ua := a.ua.set h n } { S with undone := S.undone.set h l } := by
  have nd := o.nd
  rw [List.nodup_cons, List.mem_cons, List.nodup_cons] at nd
  obtain ⟨d1, d2, d3, d4⟩ := o.dj a.ud (by simp)
  have f : ∀ {c : Addr} {x : HO}, c ≠ a.ud → H c = some x → upd H a.ud (.lst ((a.ua.set h n).map V.ref)) c = some x := fun n h => by rw [upd_ne n]; exact h
  have ft : ∀ {c : Addr} {us : List V}, H c = some (.tup us) → c ≠ a.ud := fun h e => by rw [e, o.ud] at h; cases h
  have hlt : h < a.ua.length := by rw [o.ul]; exact hh
  have ms : ∀ c ∈ a.ua.set h n, c ∈ a.ua ∨ c = n := fun c hc => List.mem_or_eq_of_mem_set hc
  refine ⟨f (fun e => by have := o.ob; rw [e, o.ud] at this; cases this) o.ob, f d1.symm o.sg, f d2.symm o.od, f d3.symm o.th, ⟨f d4.symm o.de.lst, o.de.len, fun i t dd h1 h2 => f (ft (o.de.at_ i t dd h1 h2)) (o.de.at_ i t dd h1 h2)⟩,
    f (fun e => nd.1 (.inl e)) o.sp, upd_same, by show (a.ua.set h n).length = (S.undone.set h l).length; rw [List.length_set, List.length_set]; exact o.ul, fun i v m h1 h2 => ?_, ?_, fun c hc => ?_⟩
  · have h1 : (a.ua.set h n)[i]? = some v := h1
    have h2 : (S.undone.set h l)[i]? = some m := h2
    by_cases e : i = h
    · subst e
      rw [List.getElem?_set_self hlt] at h1
      rw [List.getElem?_set_self hh] at h2
      cases h1
      cases h2
      exact f nn.2.1 hn
    · rw [List.getElem?_set_ne (fun z => e z.symm)] at h1 h2
      exact f (fun z => nd.2.1 (z ▸ List.mem_of_getElem? h1)) (o.un i v m h1 h2)
  · show (a.sp :: a.ud :: a.ua.set h n).Nodup
    rw [List.nodup_cons, List.mem_cons, List.nodup_cons]
    refine ⟨fun z => ?_, fun z => ?_, ?_⟩
    · rcases z with z | z
      · exact nd.1 (.inl z)
      · rcases ms _ z with z | z
        · exact nd.1 (.inr z)
        · exact nn.1 z.symm
    · rcases ms _ z with z | z
      · exact nd.2.1 z
      · exact nn.2.1 z.symm
    · rw [List.nodup_iff_pairwise_ne, List.pairwise_iff_getElem]
      intro i j hi hj hij
      rw [List.length_set] at hi hj
      rw [List.getElem_set, List.getElem_set]
      have ne : ∀ k (hk : k < a.ua.length), a.ua[k] ≠ n := fun k hk z => nn.2.2 (z ▸ List.getElem_mem hk)
      by_cases c1 : h = i
      · rw [if_pos c1, if_neg (by omega)]
        exact (ne j hj).symm
      · rw [if_neg c1]
        by_cases c2 : h = j
        · rw [if_pos c2]
          exact ne i hi
        · rw [if_neg c2]
          exact fun z => by have := nodup_inj nd.2.2 (List.getElem?_eq_getElem hi) ((List.getElem?_eq_getElem hj).trans (congrArg some z.symm)); omega
  · have hc : c ∈ a.sp :: a.ud :: a.ua.set h n := hc
    rcases List.mem_cons.mp hc with z | z
    · exact o.dj c (by simp [z])
    · rcases List.mem_cons.mp z with z | z
      · exact o.dj c (by simp [z])
      · rcases ms _ z with z | z
        · exact o.dj c (by simp [z])
        · rw [z]; exact nm
end
/-! ### turn -/
def turnR (S : TSt) (n : Nat) (st : Bool) : List Deed := match S.deeds[n]? with
  | some d => S.deeds.set n (d.1, d.2.1, d.2.2.1, st)
  | none => S.deeds
theorem turnR_len (S : TSt) (n : Nat) (st : Bool) : (turnR S n st).length = S.deeds.length := by
  unfold turnR
  split
  · rw [List.length_set]
  · rfl
theorem setA_own {tb : Addr} {a : TA} {sg od th dl sp : Addr} {da : List Addr} {c : Addr} (h : ownT tb (setA a sg od th dl sp da) c) : ownT tb a c ∨ c = sg ∨ c = od ∨ c = th ∨ c = dl ∨ c = sp := by
  rcases h with e | e | e | e | e | e | e | e
  · exact .inl (.inl e)
  · exact .inr (.inl e)
  · exact .inr (.inr (.inl e))
  · exact .inr (.inr (.inr (.inl e)))
  · exact .inr (.inr (.inr (.inr (.inl e))))
  · exact .inr (.inr (.inr (.inr (.inr e))))
  · exact .inl (.inr (.inr (.inr (.inr (.inr (.inr (.inl e)))))))
  · exact .inl (.inr (.inr (.inr (.inr (.inr (.inr (.inr e)))))))
section
variable {P : Program} {w : World} {K : PySem.W.Frag} {mg : Str → Option Value} {base : Heap} {cs : List (Addr × Addr)} {B : Addr}
/-- what a table does, and its lists of the undone stay where they are -/
def Went2 (cs : List (Addr × Addr)) (B : Addr) (H : Hp) (tb : Addr) (a : TA) (S' : TSt) (Q : Hp → Prop) : Prop :=
  ∀ (a' : TA) (H' : Hp), a'.ud = a.ud → a'.ua = a.ua → (∀ c o, H c = some o → NT cs c o → c ≠ tb → H' c = some o) → (∀ c, ownT tb a' c → ownT tb a c ∨ H c = none) → Tabs cs H' → (∀ b, H' b = none → H b = none) → TabD B H' tb a' S' → Q H'
def spTurn (cs : List (Addr × Addr)) (B C : Addr) : Sp := fun vs H Q E => ∃ (tb : Addr) (n : Nat) (st : Bool) (a : TA) (S : TSt), vs = [.ref tb, .int (n : Nat), .bl st] ∧ Tabs cs H ∧ TabD B H tb a S ∧ n < S.deeds.length ∧ SetPre S S.signs S.order (turnR S n st) ∧
  (PgOk (pageR S.signs S.order (turnR S n st)) → Went2 cs B H tb a (settleR S S.signs S.order (turnR S n st)) fun H' => Q .non H') ∧
  (¬ PgOk (pageR S.signs S.order (turnR S n st)) → ∀ H', Ex cs H H' → E (.ref C) none H')
abbrev nmTurn : List Str := ["self", "number", "stands", "hand", "sign", "mark", "stood", "deeds"]
theorem sc_turn : FnScope nmTurn ["self", "number", "stands"] (defScope (mth nTable 15)) := ⟨rfl, rfl, rfl, by decide +kernel, rfl, by decide +kernel, by decide +kernel⟩
theorem ok_turn {C : Addr} {f g : Addr} {fd fdg : FuncData} (T : Txt mg) (X : TabC K B) (F : Fun K "turn" "Table.turn" (mth nTable 15) f fd)
    (M : Meth K B "settle" g) (G : FnOk P w K mg base (L2.CX P w) 11 g fdg ["self", "signs", "order", "deeds"] (spSettle cs B C)) (bd : Binds K fdg ["self", "signs", "order", "deeds"] []) : FnOk P w K mg base (L2.CX P w) 12 f fd ["self", "number", "stands"] (spTurn cs B C) := by
  refine F.okX sc_turn (fun vs H Q E h => ?_) (fun cdv A outer s H vs Q E hr h => ?_)
  · obtain ⟨tb, n, st, a, S, rfl, _⟩ := h
    rfl
  · obtain ⟨tb, n, st, a, S, rfl, hT, hD, hn, hO, k, kx⟩ := h
    have nd := sc_turn.nd
    refine ⟨_, pss_cons (ps_asg (pe_ix ix_list (pe_fld (pv 0) rfl) (pv 1) (fun _ _ => rfl)) (pg_tup rfl (pgs_cons (pg_name (i := 3) nd rfl (.inl rfl)) (pgs_cons (pg_name (i := 4) nd rfl (.inl rfl)) (pgs_cons (pg_name (i := 5) nd rfl (.inl rfl)) (pgs_cons (pg_name (i := 6) nd rfl (.inl rfl)) pgs_nil))))))
      (pss_cons (ps_set (i := 7) nd rfl (.inl rfl) (pe_callTy call_list_of (by rfl) T.list (by decide +kernel) (pa_cons (pe_fld (pv 0) rfl) pa_nil)))
      (pss_cons (ps_asg (pe_tup (pa_cons (pv 3) (pa_cons (pv 4) (pa_cons (pv 5) (pa_cons (pv 2) pa_nil))))) (pg_sub (pv 7) (pv 1) set_list))
      (pss_one (ps_expr (pe_methS (pv 0) X.cls M G hr bd (fun σ => passAt (takes_of rfl rfl rfl rfl) σ) (pa_cons (pe_fld (pv 0) rfl) (pa_cons (pe_fld (pv 0) rfl) (pa_cons (pv 7) pa_nil)))))))), ?_⟩
    obtain ⟨d, hd⟩ := getP (xs := S.deeds) (i := n) hn
    obtain ⟨t, ht⟩ := getP (xs := a.da) (i := n) (by rw [hD.de.len]; exact hn)
    have htd := hD.de.at_ n t d ht hd
    have ed : turnR S n st = S.deeds.set n (d.1, d.2.1, d.2.2.1, st) := by unfold turnR; rw [hd]
    refine ⟨_, rfl, tb, B, a.dx, _, _, rfl, hD.ob, X.cls, X.nDeeds, rfl, _, rfl, a.dl, _, _, .ref t, rfl, rfl, SqL.of hD.de.lst, atI_nat (by rw [List.getElem?_map, ht]; rfl), t, _, rfl, .inl (.inl htd), rfl, _, _, rfl, _, _, rfl, _, _, rfl, _, _, rfl, rfl, ?_⟩
    refine ⟨_, rfl, tb, B, a.dx, _, _, rfl, hD.ob, X.cls, X.nDeeds, rfl, a.dl, _, rfl, .inl (SqL.of hD.de.lst), fun L nL => ?_⟩
    have x1 : ∀ {o : HO}, Same H (upd H L o) := same_new nL
    refine ⟨_, rfl, _, rfl, _, rfl, _, rfl, by show 4 ≤ sizeLine; decide, fun p np => ⟨_, rfl, _, rfl, L, _, _, n, rfl, rfl, by rw [upd_ne (ne_of_none upd_same np)]; exact upd_same, ixN_nat (by rw [List.length_map, hD.de.len]; exact hn), ?_⟩⟩
    have npL : p ≠ L := fun e => by rw [e, upd_same] at np; cases np
    have np0 : H p = none := by rw [upd_ne npL] at np; exact np
    have em : (a.da.map V.ref).set n (V.ref p) = (a.da.set n p).map V.ref := by rw [List.map_set]
    dsimp only
    rw [em]
    have hx : ∀ c o, H c = some o → upd (upd (upd H L (.lst (a.da.map V.ref))) p (.tup [.int (d.1 : Nat), .str d.2.1, .int (d.2.2.1 : Nat), .bl st])) L (.lst ((a.da.set n p).map V.ref)) c = some o := fun c o h => by
      rw [upd_ne (ne_of_none h nL), upd_ne (ne_of_none h np0), upd_ne (ne_of_none h nL)]
      exact h
    have hxs : Same H (upd (upd (upd H L (.lst (a.da.map V.ref))) p (.tup [.int (d.1 : Nat), .str d.2.1, .int (d.2.2.1 : Nat), .bl st])) L (.lst ((a.da.set n p).map V.ref))) := hx
    have hp : upd (upd (upd H L (.lst (a.da.map V.ref))) p (.tup [.int (d.1 : Nat), .str d.2.1, .int (d.2.2.1 : Nat), .bl st])) L (.lst ((a.da.set n p).map V.ref)) p = some (.tup [.int (d.1 : Nat), .str d.2.1, .int (d.2.2.1 : Nat), .bl st]) := by rw [upd_ne npL, upd_same]
    have hL : upd (upd (upd H L (.lst (a.da.map V.ref))) p (.tup [.int (d.1 : Nat), .str d.2.1, .int (d.2.2.1 : Nat), .bl st])) L (.lst ((a.da.set n p).map V.ref)) L = some (.lst ((a.da.set n p).map V.ref)) := upd_same
    generalize upd (upd (upd H L (.lst (a.da.map V.ref))) p (.tup [.int (d.1 : Nat), .str d.2.1, .int (d.2.2.1 : Nat), .bl st])) L (.lst ((a.da.set n p).map V.ref)) = H1 at hxs hp hL ⊢
    clear hx
    have hD1 := hD.same hxs
    have e1 := same_ex hxs hT
    have hdl : DeedsAt H1 L (a.da.set n p) (turnR S n st) := by
      refine ⟨hL, by rw [List.length_set, turnR_len]; exact hD.de.len, fun i q dd h1 h2 => ?_⟩
      rw [ed] at h2
      by_cases e : i = n
      · subst e
        rw [List.getElem?_set_self (by rw [hD.de.len]; exact hn)] at h1
        rw [List.getElem?_set_self hn] at h2
        cases h1
        cases h2
        exact hp
      · rw [List.getElem?_set_ne (fun z => e z.symm)] at h1 h2
        exact hxs _ _ (hD.de.at_ i q dd h1 h2)
    have old : ∀ {c : Addr} {o : HO}, H c = some o → c ≠ L := fun h => ne_of_none h nL
    have ou : ∀ c ∈ a.ud :: a.ua, c ≠ a.sg ∧ c ≠ a.od ∧ c ≠ L := fun c hc => by
      obtain ⟨h1, h2, _, _⟩ := hD.dj c (List.mem_cons_of_mem _ hc)
      refine ⟨h1, h2, ?_⟩
      rcases List.mem_cons.mp hc with e | e
      · rw [e]; exact old hD.ud
      · obtain ⟨i, hi⟩ := List.mem_iff_getElem?.mp e
        obtain ⟨l, hl⟩ := getP (xs := S.undone) (i := i) (by rw [← hD.ul]; exact (List.getElem?_eq_some_iff.mp hi).1)
        exact old (hD.un i c l hi hl)
    refine ⟨_, rfl, tb, a.dx, _, rfl, hD1.ob, rfl, _, rfl, tb, B, a.dx, _, _, rfl, hD1.ob, X.cls, X.nSigns, rfl, _, rfl, tb, B, a.dx, _, _, rfl, hD1.ob, X.cls, X.nOrder, rfl, _, rfl, tb, a.sg, a.od, L, a, S, S.signs, S.order, turnR S n st, _, rfl, e1.tab, hD1, hD1.sg, hD1.od, hdl, ou, hO, fun pg th sp H2 nth nsp kk t2 o2 hD2 => ?_, fun pg H2 x2 => kx pg H2 (e1.trans x2)⟩
    refine k pg (setA a a.sg a.od th L sp (a.da.set n p)) H2 rfl rfl (fun c o h n m => kk c o (hxs c o h) n m) (fun c hc => ?_) t2 (fun b hb => e1.old b (o2 b hb)) hD2
    rcases setA_own hc with z | z | z | z | z | z
    · exact .inl z
    · exact .inl (z ▸ .inr (.inl rfl))
    · exact .inl (z ▸ .inr (.inr (.inl rfl)))
    · exact .inr (z ▸ same_old hxs nth)
    · exact .inr (z ▸ nL)
    · exact .inr (z ▸ same_old hxs nsp)
end
end TG

namespace TG
open PySem PySem.Spec PyProof.Rows L2 Gx
/-! ### back, again, rub -/
def d0 : Deed := (0, "", 0, false)
def stR (ds : List Deed) (h n : Nat) : List Nat := (List.range n).filter fun i => decide ((ds.getD i d0).1 = h) && (ds.getD i d0).2.2.2
theorem stR_succ {ds : List Deed} {h i : Nat} {d : Deed} (hd : ds[i]? = some d) : stR ds h (i + 1) = stR ds h i ++ if (decide (d.1 = h) && d.2.2.2) = true then [i] else [] := by
  have e : ds.getD i d0 = d := by rw [List.getD_eq_getElem?_getD, hd]; rfl
  unfold stR
  rw [List.range_succ, List.filter_append, List.filter_cons, List.filter_nil, e]
theorem stR_len (ds : List Deed) (h n : Nat) : (stR ds h n).length ≤ n := by
  unfold stR
  have := List.length_filter_le (fun i => decide ((ds.getD i d0).1 = h) && (ds.getD i d0).2.2.2) (List.range n)
  rw [List.length_range] at this
  exact this
theorem stR_lt {ds : List Deed} {h n m : Nat} (hm : m ∈ stR ds h n) : m < n := List.mem_range.mp (List.mem_filter.mp hm).1
theorem atN_last {l : List Nat} (h : l ≠ []) : atI (nV l) (-1) = some (.int (l.getLast?.getD 0 : Nat)) := by
  have lp : 0 < l.length := List.length_pos_iff.mpr h
  have e : ixN (nV l).length (-1) = some (l.length - 1) := by
    unfold ixN nV
    rw [List.length_map]
    simp
    omega
  unfold atI
  rw [e]
  show (nV l)[l.length - 1]? = _
  refine (nV_get (m := l.getLast?.getD 0) ?_)
  rw [List.getLast?_eq_getElem?, List.getElem?_eq_getElem (by omega)]
  rfl
/-- what going back does -/
def backR (S : TSt) (h : Nat) : Bool × TSt := match (stR S.deeds h S.deeds.length).getLast? with
  | none => (false, S)
  | some n => (true, { settleR S S.signs S.order (turnR S n false) with undone := S.undone.set h (S.undone.getD h [] ++ [n]) })
def againR (S : TSt) (h : Nat) : Bool × TSt := match (S.undone.getD h []).getLast? with
  | none => (false, S)
  | some n => (true, { settleR S S.signs S.order (turnR S n true) with undone := S.undone.set h (S.undone.getD h []).dropLast })
def rubR (S : TSt) (h m : Nat) : TSt := { settleR S S.signs S.order (S.deeds ++ [((h, ("" : Str), m, true) : Deed)]) with undone := S.undone.set h [] }
theorem ownT_eq {tb : Addr} {a : TA} {u : List Addr} {c : Addr} (h : ownT tb { a with ua := u } c) : ownT tb a c ∨ c ∈ u := by
  rcases h with e | e | e | e | e | e | e | e
  · exact .inl (.inl e)
  · exact .inl (.inr (.inl e))
  · exact .inl (.inr (.inr (.inl e)))
  · exact .inl (.inr (.inr (.inr (.inl e))))
  · exact .inl (.inr (.inr (.inr (.inr (.inl e)))))
  · exact .inl (.inr (.inr (.inr (.inr (.inr (.inl e))))))
  · exact .inl (.inr (.inr (.inr (.inr (.inr (.inr (.inl e)))))))
  · exact .inr e
section
variable {P : Program} {w : World} {K : PySem.W.Frag} {mg : Str → Option Value} {base : Heap} {cs : List (Addr × Addr)} {B C G : Addr}
def spTBack (cs : List (Addr × Addr)) (B C : Addr) : Sp := fun vs H Q E => ∃ (tb : Addr) (h : Nat) (a : TA) (S : TSt), vs = [.ref tb, .int (h : Nat)] ∧ Tabs cs H ∧ TabD B H tb a S ∧ TOk S ∧ h < S.spots.length ∧ (∀ n ∈ stR S.deeds h S.deeds.length, SetPre S S.signs S.order (turnR S n false)) ∧
  ((∀ n, (stR S.deeds h S.deeds.length).getLast? = some n → PgOk (pageR S.signs S.order (turnR S n false))) → Went cs B H tb a (backR S h).2 fun H' => Q (.bl (backR S h).1) H') ∧
  (∀ n, (stR S.deeds h S.deeds.length).getLast? = some n → ¬ PgOk (pageR S.signs S.order (turnR S n false)) → ∀ H', Ex cs H H' → E (.ref C) none H')
abbrev nmTBack : List Str := ["self", "hand", "standing", "number", "own", "sign", "mark", "stands"]
theorem sc_tback : FnScope nmTBack ["self", "hand"] (defScope (mth nTable 3)) := ⟨rfl, rfl, rfl, by decide +kernel, rfl, by decide +kernel, by decide +kernel⟩
theorem ok_tback {f g1 g2 : Addr} {fd fd1 fd2 : FuncData} (T : Txt mg) (X : TabC K B) (F : Fun K "back" "Table.back" (mth nTable 3) f fd)
    (M1 : Meth K B "check_hand" g1) (G1 : FnOk P w K mg base CX0 2 g1 fd1 ["self", "hand"] (spHand B)) (b1 : Binds K fd1 ["self", "hand"] [])
    (M2 : Meth K B "turn" g2) (G2 : FnOk P w K mg base (L2.CX P w) 12 g2 fd2 ["self", "number", "stands"] (spTurn cs B C)) (b2 : Binds K fd2 ["self", "number", "stands"] []) : FnOk P w K mg base (L2.CX P w) 13 f fd ["self", "hand"] (spTBack cs B C) := by
  refine F.okX sc_tback (fun vs H Q E h => ?_) (fun cdv A outer s H vs Q E hr h => ?_)
  · obtain ⟨tb, h, a, S, rfl, _⟩ := h
    rfl
  · obtain ⟨tb, h, a, S, rfl, hT, hD, hO, hh, hs, k, kx⟩ := h
    have nd := sc_tback.nd
    have r2 : Room 2 _ := hr.mono (by decide)
    have szl : (9000 : Nat) < sizeLine := by decide
    have dn := hO.dn
    refine ⟨_, pss_cons (ps_expr (pe_meth (pv 0) X.cls M1 G1 r2 b1 .nil pass0 (pa_cons (pv 1) pa_nil)))
      (pss_cons (ps_setLc (i := 2) (own := [("number", 3), ("own", 4), ("sign", 5), ("mark", 6), ("stands", 7)]) (g := gTup K 2 (gCons (gName 3) (gCons (gTup K 4 (gCons (gName 4) (gCons (gName 5) (gCons (gName 6) (gCons (gName 7) gNil))))) gNil))) rfl nd rfl rfl (sw_true rfl rfl rfl (by decide +kernel)) (pi_enum (by rfl) T.enum (pa_cons (pe_fld (pv 0) rfl) pa_nil)) (blkOk_by (own := [("number", 3), ("own", 4), ("sign", 5), ("mark", 6), ("stands", 7)]) (N := nmTBack) (sc := defScope (mth nTable 3)) (by decide +kernel))
        (fun _ _ _ _ _ => pg_tup rfl (pgs_cons (pg_name (i := 3) nd rfl (.inl rfl) (.inr rfl)) (pgs_cons (pg_tup rfl (pgs_cons (pg_name (i := 4) nd rfl (.inl rfl) (.inr rfl)) (pgs_cons (pg_name (i := 5) nd rfl (.inl rfl) (.inr rfl)) (pgs_cons (pg_name (i := 6) nd rfl (.inl rfl) (.inr rfl)) (pgs_cons (pg_name (i := 7) nd rfl (.inl rfl) (.inr rfl)) pgs_nil))))) pgs_nil)))
        (fun _ _ _ _ _ => pts_one (PW.pt (pw_and (pt_cmpR op_eq (pv 4) (pv 1) (nomark _)) (pw_and1 (pt_val (pv 7)))))) (fun _ _ _ _ _ => pv 3))
      (pss_cons (ps_if (pt_cmpR op_eq (pe_callB call_len_seq (by rfl) T.len PySem.boot_len (pa_cons (pv 2) pa_nil)) pe_int (nomark _)) (pss_one (ps_ret pe_bl)) pss_nil)
      (pss_cons (ps_expr (pe_methS (pv 0) X.cls M2 G2 hr b2 (fun σ => passAt (takes_of rfl rfl rfl rfl) σ) (pa_cons (pe_ix ix_list (pv 2) (pe_un un_neg pe_int) (fun _ _ => rfl)) (pa_cons pe_bl pa_nil))))
      (pss_cons (ps_expr (pe_bm PySem.F.plainAttrs_list PySem.F.slot_list_append PySem.F.type_list_append mt_append (pe_ix ix_list (pe_fld (pv 0) rfl) (pv 1) (fun _ _ => rfl)) (pa_cons (pe_ix ix_list (pv 2) (pe_un un_neg pe_int) (fun _ _ => rfl)) pa_nil)))
      (pss_one (ps_ret pe_bl)))))), ?_⟩
    refine ⟨_, rfl, tb, a.dx, _, rfl, hD.ob, rfl, _, rfl, tb, h, a, S, rfl, hD, hh, ?_⟩
    refine ⟨_, rfl, tb, B, a.dx, _, _, rfl, hD.ob, X.cls, X.nDeeds, rfl, a.dl, _, rfl, SqL.of hD.de.lst, fun D nD => lc_it (walk_enum (xs := a.da.map V.ref)) (fun i H' => Same H H' ∧ H' D = some (.lst (nV (stR S.deeds h i)))) ⟨same_new nD, upd_same⟩ (fun i H' _ x => SqL.of (x.1 _ _ hD.de.lst)) ?_ ?_⟩
    · rintro i x H3 H4 hi ⟨o1, o2⟩ ⟨Tp, v, u, rfl, hn, rfl, hv, hu⟩
      cases hv
      obtain ⟨t, ht, rfl⟩ := get_map hu
      obtain ⟨d, hd⟩ := getP (xs := S.deeds) (i := i) (by rw [← hD.de.len]; exact (List.getElem?_eq_some_iff.mp ht).1)
      have x4 : Same H3 (upd H3 Tp (.tup [.int (i : Nat), .ref t])) := same_new hn
      have hTp : upd H3 Tp (.tup [.int (i : Nat), .ref t]) Tp = some (.tup [.int (i : Nat), .ref t]) := upd_same
      generalize upd H3 Tp (.tup [.int (i : Nat), .ref t]) = H4 at x4 hTp ⊢
      have htd := x4 _ _ (o1 _ _ (hD.de.at_ i t d ht hd))
      have li := (List.getElem?_eq_some_iff.mp hd).1
      refine ⟨Tp, _, rfl, .inl (.inl hTp), rfl, _, _, rfl, _, _, rfl, ⟨t, _, rfl, .inl (.inl htd), rfl, _, _, rfl, _, _, rfl, _, _, rfl, _, _, rfl, rfl, rfl, rfl, ?_⟩⟩
      rw [stR_succ hd]
      refine ⟨_, rfl, _, rfl, rfl, _, rfl, ?_⟩
      have ei : decide (V.int (d.1 : Nat) = V.int (h : Nat)) = decide (d.1 = h) := by
        by_cases c : d.1 = h
        · rw [decide_eq_true c, c, decide_eq_true rfl]
        · rw [decide_eq_false c, decide_eq_false (fun z => c (by injection z with z; omega))]
      rw [ei]
      have sl := stR_len S.deeds h i
      have o24 := x4 _ _ o2
      have ok4 : Same H H4 := same_trans o1 x4
      have fin : (decide (d.1 = h) && d.2.2.2) = true → ∃ acc, H4 D = some (.lst acc) ∧ acc.length < sizeLine ∧ (Same H (upd H4 D (.lst (acc ++ [.int (i : Nat)]))) ∧ upd H4 D (.lst (acc ++ [.int (i : Nat)])) D = some (.lst (nV (stR S.deeds h i ++ if (decide (d.1 = h) && d.2.2.2) = true then [i] else [])))) := fun c => by
        rw [if_pos c]
        exact ⟨_, o24, by rw [nV_len]; omega, same_upd ok4 nD, by rw [upd_same]; simp [nV]⟩
      by_cases c : d.1 = h
      · rw [decide_eq_true c]
        cases e2 : d.2.2.2 with
        | true =>
          rw [decide_eq_true c, e2] at fin
          exact iteT ⟨_, rfl, true, rfl, iteT ⟨_, rfl, fin rfl⟩⟩
        | false =>
          refine iteT ⟨_, rfl, false, rfl, iteF ⟨ok4, ?_⟩⟩
          simpa using o24
      · rw [decide_eq_false c]
        refine iteF (iteF ⟨ok4, ?_⟩)
        simpa using o24
    · rintro H1 ⟨x1, hDl⟩
      have e0 : (a.da.map V.ref).length = S.deeds.length := by rw [List.length_map]; exact hD.de.len
      rw [e0] at hDl
      have hD1 := hD.same x1
      have e1 := same_ex x1 hT
      have el : (nV (stR S.deeds h S.deeds.length)).length = (stR S.deeds h S.deeds.length).length := nV_len _
      refine ⟨_, rfl, D, _, rfl, .inl (SqL.of hDl), rfl, _, rfl, ?_⟩
      rw [el]
      cases eg : (stR S.deeds h S.deeds.length).getLast? with
      | none =>
        replace k := k (fun n z => by rw [eg] at z; cases z)
        unfold backR at k
        rw [eg] at k
        rw [List.getLast?_eq_none_iff.mp eg]
        exact iteT (k a H1 (KN.same x1) (fun c hc => .inl hc) e1.tab (fun b hb => same_old x1 hb) hD1)
      | some n =>
        have mn := List.mem_of_getLast? eg
        have ne : stR S.deeds h S.deeds.length ≠ [] := fun z => by rw [z] at mn; cases mn
        have lp : 0 < (stR S.deeds h S.deeds.length).length := List.length_pos_iff.mpr ne
        have en : (stR S.deeds h S.deeds.length).getLast?.getD 0 = n := by rw [eg]; rfl
        have la := atN_last ne
        rw [en] at la
        rw [decide_eq_false (fun z => by injection z with z; omega)]
        have hu : h < S.undone.length := by rw [← hO.hn]; exact hh
        refine iteF ⟨_, rfl, tb, a.dx, _, rfl, hD1.ob, rfl, _, rfl, 1, rfl, D, _, _, _, rfl, rfl, SqL.of hDl, la, tb, n, false, a, S, rfl, e1.tab, hD1, stR_lt mn, hs n mn, fun pg a' H2 eud eua kk ho t2 o2 hD2 => ?_, fun pg H2 x2 => kx n eg pg H2 (e1.trans x2)⟩
        replace k := k (fun m z => by rw [eg] at z; cases z; exact pg)
        unfold backR at k
        rw [eg] at k
        have nDt : D ≠ tb := fun z => by have := x1 _ _ hD.ob; rw [← z, hDl] at this; cases this
        have hDl2 := kk _ _ hDl (.inl fun ps z => by cases z) nDt
        obtain ⟨u, l, q1, q2, q3⟩ := hD2.nth (h := h) (by exact hu)
        have q2' : S.undone[h]? = some l := q2
        have el2 : S.undone.getD h [] = l := by rw [List.getD_eq_getElem?_getD, q2']; rfl
        have ll := (hO.un l (List.mem_of_getElem? q2')).1
        refine ⟨_, rfl, tb, B, _, _, _, rfl, hD2.ob, X.cls, X.nUndone, rfl, _, rfl, _, _, _, .ref u, rfl, rfl, SqL.of hD2.ud, atI_nat (by rw [List.getElem?_map, q1]; rfl), .inl ⟨rfl, _, SqL.of q3⟩, _, rfl, 1, rfl, D, _, _, _, rfl, rfl, SqL.of hDl2, la, u, _, _, rfl, rfl, q3, by rw [nV_len]; omega, ?_⟩
        have ea : nV l ++ [V.int (n : Nat)] = nV (l ++ [n]) := by simp [nV]
        rw [ea]
        rw [el2] at k
        have hD3 := hD2.und q1 (l ++ [n])
        have k2 : KN cs (ownT tb a) H H2 := fun c o h m nn => kk c o (x1 c o h) m fun z => nn (.inl z)
        have hc' : ∀ c, ownT tb a' c → ownT tb a c ∨ H c = none := fun c hc => (ho c hc).imp id fun z => same_old x1 z
        have uo : ownT tb a u := .inr (.inr (.inr (.inr (.inr (.inr (.inr (by rw [← eua]; exact List.mem_of_getElem? q1)))))))
        refine k a' _ (k2.tr (upd_ownN uo)) hc' (tabs_lst t2 q3) (fun b hb => same_old x1 (o2 b (upd_old q3 hb))) hD3
end
end TG

namespace TG
open PySem PySem.Spec PyProof.Rows L2 Gx
section
variable {P : Program} {w : World} {K : PySem.W.Frag} {mg : Str → Option Value} {base : Heap} {cs : List (Addr × Addr)} {B C G : Addr}
def spTAgain (cs : List (Addr × Addr)) (B C : Addr) : Sp := fun vs H Q E => ∃ (tb : Addr) (h : Nat) (a : TA) (S : TSt), vs = [.ref tb, .int (h : Nat)] ∧ Tabs cs H ∧ TabD B H tb a S ∧ TOk S ∧ h < S.spots.length ∧ (∀ n ∈ S.undone.getD h [], SetPre S S.signs S.order (turnR S n true)) ∧
  ((∀ n, (S.undone.getD h []).getLast? = some n → PgOk (pageR S.signs S.order (turnR S n true))) → Went cs B H tb a (againR S h).2 fun H' => Q (.bl (againR S h).1) H') ∧
  (∀ n, (S.undone.getD h []).getLast? = some n → ¬ PgOk (pageR S.signs S.order (turnR S n true)) → ∀ H', Ex cs H H' → E (.ref C) none H')
theorem sc_tagain : FnScope ["self", "hand"] ["self", "hand"] (defScope (mth nTable 4)) := ⟨rfl, rfl, rfl, by decide +kernel, rfl, by decide +kernel, by decide +kernel⟩
theorem ok_tagain {f g1 g2 : Addr} {fd fd1 fd2 : FuncData} (T : Txt mg) (X : TabC K B) (F : Fun K "again" "Table.again" (mth nTable 4) f fd)
    (M1 : Meth K B "check_hand" g1) (G1 : FnOk P w K mg base CX0 2 g1 fd1 ["self", "hand"] (spHand B)) (b1 : Binds K fd1 ["self", "hand"] [])
    (M2 : Meth K B "turn" g2) (G2 : FnOk P w K mg base (L2.CX P w) 12 g2 fd2 ["self", "number", "stands"] (spTurn cs B C)) (b2 : Binds K fd2 ["self", "number", "stands"] []) : FnOk P w K mg base (L2.CX P w) 13 f fd ["self", "hand"] (spTAgain cs B C) := by
  refine F.okX sc_tagain (fun vs H Q E h => ?_) (fun cdv A outer s H vs Q E hr h => ?_)
  · obtain ⟨tb, h, a, S, rfl, _⟩ := h
    rfl
  · obtain ⟨tb, h, a, S, rfl, hT, hD, hO, hh, hs, k, kx⟩ := h
    have r2 : Room 2 _ := hr.mono (by decide)
    refine ⟨_, pss_cons (ps_expr (pe_meth (pv 0) X.cls M1 G1 r2 b1 .nil pass0 (pa_cons (pv 1) pa_nil)))
      (pss_cons (ps_if (pt_cmpR op_eq (pe_callB call_len_seq (by rfl) T.len PySem.boot_len (pa_cons (pe_ix ix_list (pe_fld (pv 0) rfl) (pv 1) (fun _ _ => rfl)) pa_nil)) pe_int (nomark _)) (pss_one (ps_ret pe_bl)) pss_nil)
      (pss_cons (ps_expr (pe_methS (pv 0) X.cls M2 G2 hr b2 (fun σ => passAt (takes_of rfl rfl rfl rfl) σ) (pa_cons (pe_ix ix_list (pe_ix ix_list (pe_fld (pv 0) rfl) (pv 1) (fun _ _ => rfl)) (pe_un un_neg pe_int) (fun _ _ => rfl)) (pa_cons pe_bl pa_nil))))
      (pss_cons (ps_expr (pe_bm0 PySem.F.plainAttrs_list PySem.F.slot_list_pop PySem.F.type_list_pop mt_pop (pe_ix ix_list (pe_fld (pv 0) rfl) (pv 1) (fun _ _ => rfl))))
      (pss_one (ps_ret pe_bl))))), ?_⟩
    have hu : h < S.undone.length := by rw [← hO.hn]; exact hh
    obtain ⟨u, l, q1, q2, q3⟩ := hD.nth hu
    have el : S.undone.getD h [] = l := by rw [List.getD_eq_getElem?_getD, q2]; rfl
    have eq1 : (a.ua.map V.ref)[h]? = some (.ref u) := by rw [List.getElem?_map, q1]; rfl
    refine ⟨_, rfl, tb, a.dx, _, rfl, hD.ob, rfl, _, rfl, tb, h, a, S, rfl, hD, hh, ?_⟩
    refine ⟨_, rfl, tb, B, a.dx, _, _, rfl, hD.ob, X.cls, X.nUndone, rfl, _, rfl, a.ud, _, _, .ref u, rfl, rfl, SqL.of hD.ud, atI_nat eq1, u, _, rfl, .inl (SqL.of q3), rfl, _, rfl, ?_⟩
    rw [nV_len]
    rw [el] at hs k kx
    cases eg : l.getLast? with
    | none =>
      replace k := k (fun n z => by rw [eg] at z; cases z)
      unfold againR at k
      rw [el, eg] at k
      rw [List.getLast?_eq_none_iff.mp eg]
      exact iteT (k a H (KN.same same_refl) (fun c hc => .inl hc) hT (fun b hb => hb) hD)
    | some n =>
      have mn := List.mem_of_getLast? eg
      have ne : l ≠ [] := fun z => by rw [z] at mn; cases mn
      have lp : 0 < l.length := List.length_pos_iff.mpr ne
      have en : l.getLast?.getD 0 = n := by rw [eg]; rfl
      have la := atN_last ne
      rw [en] at la
      rw [decide_eq_false (fun z => by injection z with z; omega)]
      refine iteF ⟨_, rfl, tb, a.dx, _, rfl, hD.ob, rfl, _, rfl, tb, B, a.dx, _, _, rfl, hD.ob, X.cls, X.nUndone, rfl, _, rfl, a.ud, _, _, .ref u, rfl, rfl, SqL.of hD.ud, atI_nat eq1, 1, rfl, u, _, _, _, rfl, rfl, SqL.of q3, la, tb, n, true, a, S, rfl, hT, hD, (hO.un l (List.mem_of_getElem? q2)).2 n mn, hs n mn, fun pg a' H2 eud eua kk ho t2 o2 hD2 => ?_, fun pg H2 x2 => kx n eg pg H2 x2⟩
      replace k := k (fun m z => by rw [eg] at z; cases z; exact pg)
      unfold againR at k
      rw [el, eg] at k
      have q1' : a'.ua[h]? = some u := by rw [eua]; exact q1
      have q3' : H2 u = some (.lst (nV l)) := hD2.un h u l q1' q2
      have lx : (nV l)[(nV l).length - 1]? = some (.int (n : Nat)) := by
        rw [nV_len]
        refine nV_get ?_
        rw [← en, List.getLast?_eq_getElem?, List.getElem?_eq_getElem (by omega)]
        rfl
      refine ⟨_, rfl, tb, B, _, _, _, rfl, hD2.ob, X.cls, X.nUndone, rfl, _, rfl, _, _, _, .ref u, rfl, rfl, SqL.of hD2.ud, atI_nat (by rw [List.getElem?_map, q1']; rfl), .inl ⟨rfl, _, SqL.of q3'⟩, u, _, _, rfl, rfl, q3', lx, ?_⟩
      have ea : (nV l).dropLast = nV l.dropLast := by unfold nV; rw [List.map_dropLast]
      rw [ea]
      have hD3 := hD2.und q1' l.dropLast
      have uo : ownT tb a u := .inr (.inr (.inr (.inr (.inr (.inr (.inr (List.mem_of_getElem? q1)))))))
      have k2 : KN cs (ownT tb a) H H2 := fun c o h m nn => kk c o h m fun z => nn (.inl z)
      exact k a' _ (k2.tr (upd_ownN uo)) ho (tabs_lst t2 q3') (fun b hb => o2 b (upd_old q3' hb)) hD3
/-! ### rub -/
def spTRub (cs : List (Addr × Addr)) (B C TM : Addr) : Sp := fun vs H Q E => ∃ (tb : Addr) (h : Nat) (a : TA) (S : TSt), vs = [.ref tb, .int (h : Nat)] ∧ Tabs cs H ∧ TabD B H tb a S ∧ TOk S ∧ h < S.spots.length ∧
  (∀ m, nearR S h (-1) = some m → SetPre S S.signs S.order (S.deeds ++ [((h, ("" : Str), m, true) : Deed)]) ∧ (PgOk (pageR S.signs S.order (S.deeds ++ [((h, ("" : Str), m, true) : Deed)])) → Went cs B H tb a (rubR S h m) fun H' => Q .non H') ∧ (¬ PgOk (pageR S.signs S.order (S.deeds ++ [((h, ("" : Str), m, true) : Deed)])) → ∀ H', Ex cs H H' → E (.ref TM) none H')) ∧
  (nearR S h (-1) = none → ∀ H', Ex cs H H' → E (.ref C) none H')
abbrev nmTRub : List Str := ["self", "hand", "mark"]
theorem sc_trub : FnScope nmTRub ["self", "hand"] (defScope (mth nTable 2)) := ⟨rfl, rfl, rfl, by decide +kernel, rfl, by decide +kernel, by decide +kernel⟩
theorem ok_trub {TM : Addr} {f g1 g2 g3 : Addr} {fd fd1 fd2 fd3 : FuncData} (T : Txt mg) (Er : ErrC K mg "BadCell" C G) (X : TabC K B) (F : Fun K "rub" "Table.rub" (mth nTable 2) f fd)
    (M1 : Meth K B "check_hand" g1) (G1 : FnOk P w K mg base CX0 2 g1 fd1 ["self", "hand"] (spHand B)) (b1 : Binds K fd1 ["self", "hand"] [])
    (M2 : Meth K B "near" g2) (G2 : FnOk P w K mg base CX0 3 g2 fd2 ["self", "hand", "by"] (spNear B)) (b2 : Binds K fd2 ["self", "hand", "by"] [])
    (M3 : Meth K B "settle" g3) (G3 : FnOk P w K mg base (L2.CX P w) 11 g3 fd3 ["self", "signs", "order", "deeds"] (spSettle cs B TM)) (b3 : Binds K fd3 ["self", "signs", "order", "deeds"] []) : FnOk P w K mg base (L2.CX P w) 12 f fd ["self", "hand"] (spTRub cs B C TM) := by
  refine F.okX sc_trub (fun vs H Q E h => ?_) (fun cdv A outer s H vs Q E hr h => ?_)
  · obtain ⟨tb, h, a, S, rfl, _⟩ := h
    rfl
  · obtain ⟨tb, h, a, S, rfl, hT, hD, hO, hh, ky, kn⟩ := h
    have nd := sc_trub.nd
    have r2 : Room 2 _ := hr.mono (by decide)
    have r3 : Room 3 _ := hr.mono (by decide)
    refine ⟨_, pss_cons (ps_expr (pe_meth (pv 0) X.cls M1 G1 r2 b1 .nil pass0 (pa_cons (pv 1) pa_nil)))
      (pss_cons (ps_set (i := 2) nd rfl (.inl rfl) (pe_meth (pv 0) X.cls M2 G2 r3 b2 .nil pass0 (pa_cons (pv 1) (pa_cons (pe_un un_neg pe_int) pa_nil))))
      (pss_cons (ps_if (pt_cmpR op_isN (pv 2) pe_non (nomark _)) (pss_one (ps_raise rfl (takes_of rfl rfl rfl rfl) (pmk_own PySem.F.excBase_ValueError Er.exc Er.mg_ Er.kp (raises_own Er.sub Er.ty) rfl))) pss_nil)
      (pss_cons (ps_expr (pe_methS (pv 0) X.cls M3 G3 hr b3 (fun σ => passAt (takes_of rfl rfl rfl rfl) σ) (pa_cons (pe_fld (pv 0) rfl) (pa_cons (pe_fld (pv 0) rfl) (pa_cons (pe_op op_cat (pe_fld (pv 0) rfl) (pe_lst (pa_cons (pe_tup (pa_cons (pv 1) (pa_cons pe_str (pa_cons (pv 2) (pa_cons pe_bl pa_nil))))) pa_nil))) pa_nil)))))
      (pss_one (ps_asg (pe_lst pa_nil) (pg_sub (pe_fld (pv 0) rfl) (pv 1) set_list)))))), ?_⟩
    refine ⟨_, rfl, tb, a.dx, _, rfl, hD.ob, rfl, _, rfl, tb, h, a, S, rfl, hD, hh, ?_⟩
    refine ⟨_, rfl, tb, a.dx, _, rfl, hD.ob, rfl, _, rfl, 1, rfl, tb, h, -1, a, S, rfl, hD, hO, hh, fun H1 x1 => ?_⟩
    have hD1 := hD.same x1
    have e1 := same_ex x1 hT
    cases e : nearR S h (-1) with
    | none => exact ⟨_, rfl, rfl, true, rfl, iteT (kn e H1 e1)⟩
    | some m =>
      obtain ⟨hS, k, kx⟩ := ky m e
      refine ⟨_, rfl, rfl, false, rfl, iteF ?_⟩
      have dl := hS.dn
      rw [List.length_append] at dl
      have szl : (9000 : Nat) < sizeLine := by decide
      refine ⟨_, rfl, tb, a.dx, _, rfl, hD1.ob, rfl, _, rfl, tb, B, a.dx, _, _, rfl, hD1.ob, X.cls, X.nSigns, rfl, _, rfl, tb, B, a.dx, _, _, rfl, hD1.ob, X.cls, X.nOrder, rfl, _, rfl, tb, B, a.dx, _, _, rfl, hD1.ob, X.cls, X.nDeeds, rfl, _, rfl, _, rfl, by show 4 ≤ sizeLine; decide, fun p np => ⟨by show 1 ≤ sizeLine; decide, fun q nq => ?_⟩⟩
      have y1 := same_new (o := .tup [.int (h : Nat), .str "", nonN (some m), .bl true]) np
      have y2 := same_new (o := .lst [.ref p]) nq
      have hq : upd (upd H1 p (.tup [.int (h : Nat), .str "", nonN (some m), .bl true])) q (.lst [.ref p]) q = some (.lst [.ref p]) := upd_same
      have hp := y2 _ _ (upd_same (H := H1) (a := p) (o := .tup [.int (h : Nat), .str "", nonN (some m), .bl true]))
      have yy := same_trans y1 y2
      show rCat _ _ (upd (upd H1 p (.tup [.int (h : Nat), .str "", nonN (some m), .bl true])) q (.lst [.ref p])) _
      generalize upd (upd H1 p (.tup [.int (h : Nat), .str "", nonN (some m), .bl true])) q (.lst [.ref p]) = H2 at yy hq hp ⊢
      clear y1 y2
      have hD2 := hD1.same yy
      refine ⟨a.dl, q, _, _, rfl, rfl, hD2.de.lst, hq, by rw [List.length_map, hD.de.len]; simp at dl ⊢; omega, fun L nL => ?_⟩
      have y3 : ∀ {o : HO}, Same H2 (upd H2 L o) := same_new nL
      have em : a.da.map V.ref ++ [V.ref p] = (a.da ++ [p]).map V.ref := by rw [List.map_append]; rfl
      rw [em]
      have hL : upd H2 L (.lst ((a.da ++ [p]).map V.ref)) L = some (.lst ((a.da ++ [p]).map V.ref)) := upd_same
      have hp3 := y3 (o := .lst ((a.da ++ [p]).map V.ref)) _ _ hp
      have y3' := y3 (o := .lst ((a.da ++ [p]).map V.ref))
      generalize upd H2 L (.lst ((a.da ++ [p]).map V.ref)) = H3 at y3' hL hp3 ⊢
      have x3 : Same H H3 := same_trans x1 (same_trans yy y3')
      have hD3 := hD.same x3
      have e3 := same_ex x3 hT
      have nL0 : H L = none := same_old x1 (same_old yy nL)
      have hdl : DeedsAt H3 L (a.da ++ [p]) (S.deeds ++ [((h, ("" : Str), m, true) : Deed)]) := by
        refine ⟨hL, by rw [List.length_append, List.length_append, hD.de.len]; rfl, fun i t d h1 h2 => ?_⟩
        by_cases c : i < S.deeds.length
        · rw [List.getElem?_append_left c] at h2
          rw [List.getElem?_append_left (by rw [hD.de.len]; exact c)] at h1
          exact hD3.de.at_ i t d h1 h2
        · rw [List.getElem?_append_right (by omega)] at h2
          rw [List.getElem?_append_right (by rw [hD.de.len]; omega), hD.de.len] at h1
          have z : i - S.deeds.length = 0 := by have := (List.getElem?_eq_some_iff.mp h2).1; simp at this; omega
          rw [z] at h1 h2
          cases h1
          cases h2
          exact hp3
      have ou : ∀ c ∈ a.ud :: a.ua, c ≠ a.sg ∧ c ≠ a.od ∧ c ≠ L := fun c hc => by
        obtain ⟨h1, h2, _, _⟩ := hD.dj c (List.mem_cons_of_mem _ hc)
        refine ⟨h1, h2, ?_⟩
        rcases List.mem_cons.mp hc with e | e
        · rw [e]; exact ne_of_none hD.ud nL0
        · obtain ⟨i, hi⟩ := List.mem_iff_getElem?.mp e
          obtain ⟨l, hl⟩ := getP (xs := S.undone) (i := i) (by rw [← hD.ul]; exact (List.getElem?_eq_some_iff.mp hi).1)
          exact ne_of_none (hD.un i c l hi hl) nL0
      refine ⟨tb, a.sg, a.od, L, a, S, S.signs, S.order, S.deeds ++ [((h, ("" : Str), m, true) : Deed)], _, rfl, e3.tab, hD3, hD3.sg, hD3.od, hdl, ou, hS, fun pg th sp H4 nth nsp kk t4 o4 hD4 => ?_, fun pg H4 x4 => kx pg H4 (e3.trans x4)⟩
      replace k := k pg
      have hu : h < S.undone.length := by rw [← hO.hn]; exact hh
      refine ⟨small0, fun n nn => ⟨_, rfl, tb, B, _, _, _, rfl, by rw [upd_ne (ne_of_none hD4.ob nn)]; exact hD4.ob, X.cls, X.nUndone, rfl, _, rfl, a.ud, _, _, h, rfl, rfl, by rw [upd_ne (ne_of_none hD4.ud nn)]; exact hD4.ud, ixN_nat (by rw [List.length_map, hD4.ul]; exact hu), ?_⟩⟩
      have y5 := same_new (o := .lst []) nn
      have hn5 : upd H4 n (.lst []) n = some (.lst (nV [])) := upd_same
      have n4 : ∀ {c : Addr} {o : HO}, H4 c = some o → n ≠ c := fun h z => by rw [← z, nn] at h; cases h
      generalize upd H4 n (.lst []) = H5 at y5 hn5 ⊢
      have hD5 := hD4.same y5
      have eset : (a.ua.map V.ref).set h (V.ref n) = (a.ua.set h n).map V.ref := by rw [List.map_set]
      have nua : n ∉ a.ua := fun z => by
        obtain ⟨i, hi⟩ := List.mem_iff_getElem?.mp z
        obtain ⟨l, hl⟩ := getP (xs := S.undone) (i := i) (by rw [← hD.ul]; exact (List.getElem?_eq_some_iff.mp hi).1)
        exact n4 (hD4.un i n l hi hl) rfl
      have hD6 := hD5.und0 (h := h) (l := []) hn5 hu ⟨n4 hD4.sp, n4 hD4.ud, nua⟩ ⟨n4 hD4.sg, n4 hD4.od, n4 hD4.th, n4 hD4.de.lst⟩
      dsimp only
      rw [eset]
      have n0 : H n = none := same_old x3 (o4 n nn)
      refine k _ _ (fun c o h m nn2 => ?_) (fun c hc => ?_) (tabs_lst (same_ex y5 t4).tab hD5.ud) (fun b hb => same_old x3 (o4 b (same_old y5 (upd_old hD5.ud hb)))) hD6
      · rw [upd_ne (fun z => nn2 (by rw [z]; exact .inr (.inr (.inr (.inr (.inr (.inr (.inl rfl))))))))]
        exact y5 _ _ (kk c o (x3 c o h) m fun z => nn2 (.inl z))
      · rcases ownT_eq hc with z | z
        · rcases setA_own z with z | z | z | z | z | z
          · exact .inl z
          · exact .inl (z ▸ .inr (.inl rfl))
          · exact .inl (z ▸ .inr (.inr (.inl rfl)))
          · exact .inr (z ▸ same_old x3 nth)
          · exact .inr (z ▸ nL0)
          · exact .inr (z ▸ same_old x3 nsp)
        · rcases List.mem_or_eq_of_mem_set z with z | z
          · exact .inl (.inr (.inr (.inr (.inr (.inr (.inr (.inr z)))))))
          · exact .inr (z ▸ n0)
end
end TG

namespace TG
open PySem PySem.Spec PyProof.Rows L2 Gx
/-! ### list of a text -/
def sgS (z : Str) : List Str := z.cps.toList.map fun c => (⟨#[c]⟩ : Str)
def rListS : List V → Hp → VK → Prop := fun xs H Q => ∃ z : Str, xs = [.str z] ∧ z.length ≤ sizeLine ∧ ∀ l, H l = none → Q (.ref l) (upd H l (.lst (sV (sgS z))))
theorem call_list_txt {X : Cx} (hc : X.calm = true) : CallR X (.type "list") rListS := by
  intro pins s σ H xs us Q I r h
  obtain ⟨z, rfl, hz, q⟩ := h
  obtain ⟨u, rfl, rx⟩ := vals1 r
  obtain ⟨t, rfl⟩ := rx
  refine call_list_str (I.ok.hd hc) z t (fun h' tk acc' c' hk hS hacc => ?_) hz
  refine ⟨.ref s.heap.objs.size, upd H s.heap.objs.size (.lst (sV (sgS z))), I.laid hk (Nat.le_refl _) (show ObjOk X.prog X.w _ _ _ (.lst (sV (sgS z))) from ⟨?_, acc'.toList, c', ?_, ?_⟩), rfl, q _ (I.hok.fresh (Nat.le_refl _))⟩
  · unfold sV sgS
    rw [List.length_map, List.length_map, Array.length_toList]
    exact hz
  · refine vals_of_at (by unfold sV sgS; rw [List.length_map, List.length_map, Array.length_toList, Array.length_toList, hacc.1]) fun j x w h1 h2 => ?_
    obtain ⟨c, u, hcz, rfl⟩ := hacc.2 j w (by rw [← Array.getElem?_toList]; exact h2)
    have e2 : (sV (sgS z))[j]? = some (.str ⟨#[c]⟩) := by
      unfold sV sgS
      rw [List.getElem?_map, List.getElem?_map, Array.getElem?_toList, hcz]
      rfl
    rw [e2] at h1
    cases h1
    exact ⟨u, rfl⟩
  · simpa using hS
/-! ### a table's begin -/
def startR (z : Str) (n : Nat) : TSt := ⟨sgS z ++ [("" : Str)], List.range (z.length + 1), List.replicate (z.length + 1) true, [], List.replicate n 0, List.replicate n []⟩
structure TStp (B : Addr) (H0 : Hp) (tb dx : Addr) (fs : List (Str × V)) (H : Hp) : Prop where
  ob : H tb = some (.ins B dx fs)
  kp : ∀ c o, H0 c = some o → c ≠ tb → H c = some o
  old : ∀ b, H b = none → H0 b = none
section
variable {B tb dx : Addr} {H0 H : Hp} {fs fs' : List (Str × V)}
theorem TStp.new (o : TStp B H0 tb dx fs H) {p : Addr} {x : HO} (n : H p = none) : TStp B H0 tb dx fs (upd H p x) :=
  ⟨by rw [upd_ne (ne_of_none o.ob n)]; exact o.ob, fun c u h m => by rw [upd_ne (ne_of_none (o.kp c u h m) n)]; exact o.kp c u h m, fun b hb => o.old b (upd_none hb).1⟩
theorem TStp.put (o : TStp B H0 tb dx fs H) : TStp B H0 tb dx fs' (upd H tb (.ins B dx fs')) :=
  ⟨upd_same, fun c u h m => by rw [upd_ne m]; exact o.kp c u h m, fun b hb => o.old b (upd_old o.ob hb)⟩
theorem TStp.lst (o : TStp B H0 tb dx fs H) {c : Addr} {xs : List V} (h : H c = some (.lst xs)) : c ≠ tb := fun e => by rw [e, o.ob] at h; cases h
end
section
variable {P : Program} {w : World} {K : PySem.W.Frag} {mg : Str → Option Value} {base : Heap} {cs : List (Addr × Addr)} {B : Addr}
def spTInit (K : PySem.W.Frag) (cs : List (Addr × Addr)) (B : Addr) : Sp := fun vs H Q _ => ∃ (tb p st dx : Addr) (as : List Addr) (rows : List (List Str)) (gap least : Int) (n : Nat), vs = [.ref tb, .ref p, .ref st, .int (n : Nat)] ∧ Tabs cs H ∧ H tb = some (.ins B dx []) ∧ PageAt K H p as rows ∧ PgOk rows ∧ StyleAt K H st gap least ∧ 1 ≤ n ∧ n ≤ 4 ∧
  ∀ (a : TA) (H' : Hp), (∀ c o, H c = some o → NT cs c o → c ≠ tb → H' c = some o) → (∀ c, ownT tb a c → c = tb ∨ H c = none) → Tabs cs H' → (∀ b, H' b = none → H b = none) → TabD B H' tb a (startR (pageT rows) n) → Q .non H'
abbrev nmTInit : List Str := ["self", "page", "style", "hands", "text", "hand"]
theorem sc_tinit : FnScope nmTInit ["self", "page", "style", "hands"] (defScope (mth nTable 0)) := ⟨rfl, rfl, rfl, by decide +kernel, rfl, by decide +kernel, by decide +kernel⟩
theorem ok_tinit {f g1 g2 g3 : Addr} {fd fd1 fd2 fd3 : FuncData} (T : Txt mg) (X : TabC K B) (eM : ∃ t, mg "MOST_HANDS" = some (.int 4 t)) (F : Fun K "__init__" "Table.__init__" (mth nTable 0) f fd)
    (G1 : FnOk P w K mg base CX0 12 g1 fd1 ["page"] (spWrit K cs)) (k1 : PySem.W.keepIn K (.ref g1) = true) (b1 : Binds K fd1 ["page"] []) (m1 : mg "written" = some (.ref g1))
    (G2 : FnOk P w K mg base CX0 2 g2 fd2 ["style"] (spStyle K)) (k2 : PySem.W.keepIn K (.ref g2) = true) (b2 : Binds K fd2 ["style"] []) (m2 : mg "check_style" = some (.ref g2))
    (G3 : FnOk P w K mg base CX0 1 g3 fd3 ["value", "low", "high"] spWholeB) (k3 : PySem.W.keepIn K (.ref g3) = true) (b3 : Binds K fd3 ["value", "low", "high"] []) (m3 : mg "is_whole" = some (.ref g3)) : FnOk P w K mg base CX0 13 f fd ["self", "page", "style", "hands"] (spTInit K cs B) := by
  refine F.ok sc_tinit (fun vs H Q E h => ?_) (fun cdv A outer s H vs Q E hr h => ?_)
  · obtain ⟨tb, p, st, dx, as, rows, gap, least, n, rfl, _⟩ := h
    rfl
  · obtain ⟨tb, p, st, dx, as, rows, gap, least, n, rfl, hT, hob, hP, hO, hS, n1, n4, k⟩ := h
    obtain ⟨tM, eM⟩ := eM
    have nd := sc_tinit.nd
    have r2 : Room 2 _ := hr.mono (by decide)
    have r1 : Room 1 _ := hr.mono (by decide)
    refine ⟨_, pss_cons (ps_set (i := 4) nd rfl (.inl rfl) (pe_call G1 hr (by rfl) m1 k1 b1 .nil pass0 (pa_cons (pv 1) pa_nil)))
      (pss_cons (ps_expr (pe_call G2 r2 (by rfl) m2 k2 b2 .nil pass0 (pa_cons (pv 2) pa_nil)))
      (pss_cons (ps_if (pt_not (pt_val (pe_call G3 r1 (by rfl) m3 k3 b3 .nil pass0 (pa_cons (pv 3) (pa_cons pe_int (pa_cons (pe_glob (v := .int 4) rfl eM ⟨_, rfl⟩) pa_nil)))))) (pss_one ps_never) pss_nil)
      (pss_cons (ps_fld (pv 0) (pv 2) rfl)
      (pss_cons (ps_fld (pv 0) (pe_op op_cat (pe_callTy (call_list_txt rfl) (by rfl) T.list (by decide +kernel) (pa_cons (pv 4) pa_nil)) (pe_lst (pa_cons pe_str pa_nil))) rfl)
      (pss_cons (ps_fld (pv 0) (pe_listRg rfl (by rfl) T.list (prg_1 (by rfl) T.range (pe_callB call_len_seq (by rfl) T.len PySem.boot_len (pa_cons (pe_fld (pv 0) rfl) pa_nil)))) rfl)
      (pss_cons (ps_fld (pv 0) (pe_op op_rep (pe_lst (pa_cons pe_bl pa_nil)) (pe_callB call_len_seq (by rfl) T.len PySem.boot_len (pa_cons (pe_fld (pv 0) rfl) pa_nil))) rfl)
      (pss_cons (ps_fld (pv 0) (pe_lst pa_nil) rfl)
      (pss_cons (ps_fld (pv 0) (pe_op op_rep (pe_lst (pa_cons pe_int pa_nil)) (pv 3)) rfl)
      (pss_one (ps_fld (pv 0) (pe_lc (own := [("hand", 5)]) (g := gName 5) (tt := tYes) rfl nd (pi_range1 (by rfl) T.range (pa_cons (pv 3) pa_nil)) (blkOk_by (own := [("hand", 5)]) (N := nmTInit) (sc := defScope (mth nTable 0)) (by decide +kernel))
        (fun _ _ _ _ _ => pg_name (i := 5) nd rfl (Or.inl rfl)) (fun _ _ _ _ _ => pts_nil) (fun _ _ _ _ _ => pe_lst pa_nil)) rfl)))))))))), ?_⟩
    have zl := pageT_len hO
    have szl : (9000 : Nat) < sizeLine := by decide
    refine ⟨_, rfl, p, as, rows, rfl, hT, hP, hO, fun H1 x1 => ⟨_, rfl, st, gap, least, rfl, ⟨x1.sqT hS.tup, hS.g0, hS.g1, hS.l0, hS.l1⟩, ?_⟩⟩
    generalize hz : pageT rows = z at k zl ⊢
    have hob1 : H1 tb = some (.ins B dx []) := x1.ext _ _ hob fun ps q => by cases q
    refine ⟨_, rfl, _, _, _, rfl, true, by rw [decide_eq_true ⟨by omega, by omega⟩], iteF ?_⟩
    have A1 : TStp B H1 tb dx [] H1 := ⟨hob1, fun c o h _ => h, fun b hb => hb⟩
    have l0 : ((sgS z).length : Nat) = z.length := by unfold sgS; rw [List.length_map, Array.length_toList]; rfl
    -- style
    refine ⟨_, rfl, _, rfl, tb, B, dx, _, rfl, hob1, X.cls, X.nStyle, by show 0 < 1000; decide, ?_⟩
    have A2 := A1.put (fs' := putF "style" (.ref st) [])
    generalize upd H1 tb (.ins B dx (putF "style" (.ref st) [])) = H2 at A2 ⊢
    -- signs
    refine ⟨_, rfl, z, rfl, by omega, fun q1 nq1 => ⟨by show 1 ≤ sizeLine; decide, fun q2 nq2 => ?_⟩⟩
    have A3 := (A2.new (x := .lst (sV (sgS z))) nq1).new (x := .lst [V.str ""]) nq2
    have hq1 := same_new (o := .lst [V.str ""]) nq2 _ _ (upd_same (H := H2) (a := q1) (o := .lst (sV (sgS z))))
    have hq2 : upd (upd H2 q1 (.lst (sV (sgS z)))) q2 (.lst [V.str ""]) q2 = some (.lst [V.str ""]) := upd_same
    show rCat _ _ (upd (upd H2 q1 (.lst (sV (sgS z)))) q2 (.lst [V.str ""])) _
    generalize upd (upd H2 q1 (.lst (sV (sgS z)))) q2 (.lst [V.str ""]) = H3 at A3 hq1 hq2 ⊢
    have sl : (sV (sgS z)).length = z.length := by unfold sV; rw [List.length_map, l0]
    refine ⟨q1, q2, _, _, rfl, rfl, hq1, hq2, by rw [sl]; show z.length + 1 ≤ sizeLine; omega, fun sg nsg => ?_⟩
    have es : sV (sgS z) ++ [V.str ""] = sV (sgS z ++ [("" : Str)]) := by unfold sV; rw [List.map_append]; rfl
    rw [es]
    have A4 := A3.new (x := .lst (sV (sgS z ++ [("" : Str)]))) nsg
    refine ⟨_, rfl, tb, B, dx, _, rfl, A4.ob, X.cls, X.nSigns, by show 1 < 1000; decide, ?_⟩
    have hsg4 : upd H3 sg (.lst (sV (sgS z ++ [("" : Str)]))) sg = some (.lst (sV (sgS z ++ [("" : Str)]))) := upd_same
    have osg := A3.old sg nsg
    generalize upd H3 sg (.lst (sV (sgS z ++ [("" : Str)]))) = H4 at A4 hsg4 ⊢
    have A5 := A4.put (fs' := putF "signs" (.ref sg) (putF "style" (.ref st) []))
    have hsg5 : upd H4 tb (.ins B dx (putF "signs" (.ref sg) (putF "style" (.ref st) []))) sg = some (.lst (sV (sgS z ++ [("" : Str)]))) := by rw [upd_ne (A4.lst hsg4)]; exact hsg4
    generalize upd H4 tb (.ins B dx (putF "signs" (.ref sg) (putF "style" (.ref st) []))) = H5 at A5 hsg5 ⊢
    clear A1 A2 A3 A4 hq1 hq2 hsg4
    have sl1 : (sV (sgS z ++ [("" : Str)])).length = z.length + 1 := by unfold sV; rw [List.length_map, List.length_append, l0]; rfl
    -- order
    refine ⟨_, rfl, tb, B, dx, _, _, rfl, A5.ob, X.cls, X.nSigns, rfl, sg, _, rfl, .inl (SqL.of hsg5), _, rfl, ?_, fun od nod => ?_⟩
    · rw [sl1]
      exact ⟨by omega, by omega, by omega, by omega, by omega⟩
    have eo : rgV 0 (((sV (sgS z ++ [("" : Str)])).length : Nat) : Int) = nV (List.range (z.length + 1)) := by
      rw [sl1]
      unfold rgV nV
      have : ((((z.length + 1 : Nat) : Int)) - 0).toNat = z.length + 1 := by omega
      rw [this]
      refine List.map_congr_left fun i _ => ?_
      rw [Int.zero_add]
    rw [eo]
    have A6 := A5.new (x := .lst (nV (List.range (z.length + 1)))) nod
    refine ⟨_, rfl, tb, B, dx, _, rfl, A6.ob, X.cls, X.nOrder, by show 2 < 1000; decide, ?_⟩
    have ood := A5.old od nod
    have hod6 : upd H5 od (.lst (nV (List.range (z.length + 1)))) od = some (.lst (nV (List.range (z.length + 1)))) := upd_same
    have hsg6 := same_new (o := .lst (nV (List.range (z.length + 1)))) nod _ _ hsg5
    generalize upd H5 od (.lst (nV (List.range (z.length + 1)))) = H6 at A6 hod6 hsg6 ⊢
    have A7 := A6.put (fs' := putF "order" (.ref od) (putF "signs" (.ref sg) (putF "style" (.ref st) [])))
    have pk : ∀ {c : Addr} {xs : List V}, H6 c = some (.lst xs) → upd H6 tb (.ins B dx (putF "order" (.ref od) (putF "signs" (.ref sg) (putF "style" (.ref st) [])))) c = some (.lst xs) := fun h => by rw [upd_ne (A6.lst h)]; exact h
    have hod7 := pk hod6
    have hsg7 := pk hsg6
    generalize upd H6 tb (.ins B dx (putF "order" (.ref od) (putF "signs" (.ref sg) (putF "style" (.ref st) [])))) = H7 at A7 hod7 hsg7 ⊢
    clear pk A5 A6 hod6 hsg6 hsg5
    -- there
    refine ⟨by show 1 ≤ sizeLine; decide, fun q3 nq3 => ⟨_, rfl, tb, B, dx, _, _, rfl, (A7.new nq3).ob, X.cls, X.nSigns, rfl, sg, _, rfl, .inl (SqL.of (same_new nq3 _ _ hsg7)), q3, _, _, rfl, rfl, upd_same, by omega, by rw [sl1]; omega, by rw [sl1]; show 1 * (((z.length + 1 : Nat) : Int)).toNat ≤ sizeLine; omega, fun th nth => ?_⟩⟩
    have et : (List.replicate (((sV (sgS z ++ [("" : Str)])).length : Nat) : Int).toNat [V.bl true]).flatten = bV (List.replicate (z.length + 1) true) := by
      rw [sl1]
      simp [bV]
    rw [et]
    have A8 := (A7.new (x := .lst [V.bl true]) nq3).new (x := .lst (bV (List.replicate (z.length + 1) true))) nth
    have ss8 : Same H7 (upd (upd H7 q3 (.lst [V.bl true])) th (.lst (bV (List.replicate (z.length + 1) true)))) := same_trans (same_new nq3) (same_new nth)
    have hth8 : upd (upd H7 q3 (.lst [V.bl true])) th (.lst (bV (List.replicate (z.length + 1) true))) th = some (.lst (bV (List.replicate (z.length + 1) true))) := upd_same
    have oth := A7.old th (same_old (same_new nq3) nth)
    refine ⟨_, rfl, tb, B, dx, _, rfl, A8.ob, X.cls, X.nThere, by show 3 < 1000; decide, ?_⟩
    have hod8 := ss8 _ _ hod7
    have hsg8 := ss8 _ _ hsg7
    generalize upd (upd H7 q3 (.lst [V.bl true])) th (.lst (bV (List.replicate (z.length + 1) true))) = H8 at A8 hth8 hod8 hsg8 ⊢
    have A9 := A8.put (fs' := putF "there" (.ref th) (putF "order" (.ref od) (putF "signs" (.ref sg) (putF "style" (.ref st) []))))
    have pk : ∀ {c : Addr} {xs : List V}, H8 c = some (.lst xs) → upd H8 tb (.ins B dx (putF "there" (.ref th) (putF "order" (.ref od) (putF "signs" (.ref sg) (putF "style" (.ref st) []))))) c = some (.lst xs) := fun h => by rw [upd_ne (A8.lst h)]; exact h
    have hod9 := pk hod8
    have hsg9 := pk hsg8
    have hth9 := pk hth8
    generalize upd H8 tb (.ins B dx (putF "there" (.ref th) (putF "order" (.ref od) (putF "signs" (.ref sg) (putF "style" (.ref st) []))))) = H9 at A9 hod9 hsg9 hth9 ⊢
    clear pk A7 A8 ss8 hod8 hsg8 hth8 hod7 hsg7
    -- deeds
    refine ⟨small0, fun dl ndl => ?_⟩
    have A10 := A9.new (x := .lst []) ndl
    have odl := A9.old dl ndl
    have hdl10 : upd H9 dl (.lst []) dl = some (.lst (([] : List Addr).map V.ref)) := upd_same
    have hod10 := same_new (o := .lst []) ndl _ _ hod9
    have hsg10 := same_new (o := .lst []) ndl _ _ hsg9
    have hth10 := same_new (o := .lst []) ndl _ _ hth9
    refine ⟨_, rfl, tb, B, dx, _, rfl, A10.ob, X.cls, X.nDeeds, by show 4 < 1000; decide, ?_⟩
    generalize upd H9 dl (.lst []) = H10 at A10 hdl10 hod10 hsg10 hth10 ⊢
    have A11 := A10.put (fs' := putF "deeds" (.ref dl) (putF "there" (.ref th) (putF "order" (.ref od) (putF "signs" (.ref sg) (putF "style" (.ref st) [])))))
    have pk : ∀ {c : Addr} {xs : List V}, H10 c = some (.lst xs) → upd H10 tb (.ins B dx (putF "deeds" (.ref dl) (putF "there" (.ref th) (putF "order" (.ref od) (putF "signs" (.ref sg) (putF "style" (.ref st) [])))))) c = some (.lst xs) := fun h => by rw [upd_ne (A10.lst h)]; exact h
    have hod11 := pk hod10
    have hsg11 := pk hsg10
    have hth11 := pk hth10
    have hdl11 := pk hdl10
    generalize upd H10 tb (.ins B dx (putF "deeds" (.ref dl) (putF "there" (.ref th) (putF "order" (.ref od) (putF "signs" (.ref sg) (putF "style" (.ref st) [])))))) = H11 at A11 hod11 hsg11 hth11 hdl11 ⊢
    clear pk A9 A10 hod10 hsg10 hth10 hdl10 hod9 hsg9 hth9
    -- spots
    refine ⟨by show 1 ≤ sizeLine; decide, fun q4 nq4 => ⟨_, rfl, q4, _, _, rfl, rfl, upd_same, by omega, by omega, by show 1 * (((n : Nat) : Int)).toNat ≤ sizeLine; omega, fun sp nsp => ?_⟩⟩
    have ep : (List.replicate (((n : Nat) : Int)).toNat [V.int 0]).flatten = nV (List.replicate n 0) := by simp [nV]
    rw [ep]
    have A12 := (A11.new (x := .lst [V.int 0]) nq4).new (x := .lst (nV (List.replicate n 0))) nsp
    have ss12 : Same H11 (upd (upd H11 q4 (.lst [V.int 0])) sp (.lst (nV (List.replicate n 0)))) := same_trans (same_new nq4) (same_new nsp)
    have hsp12 : upd (upd H11 q4 (.lst [V.int 0])) sp (.lst (nV (List.replicate n 0))) sp = some (.lst (nV (List.replicate n 0))) := upd_same
    have nsp11 : H11 sp = none := same_old (same_new nq4) nsp
    have osp := A11.old sp nsp11
    have spn : ∀ {c : Addr} {o : HO}, H11 c = some o → sp ≠ c := fun h e => by rw [← e, nsp11] at h; cases h
    have dsp : sp ≠ sg ∧ sp ≠ od ∧ sp ≠ th ∧ sp ≠ dl := ⟨spn hsg11, spn hod11, spn hth11, spn hdl11⟩
    refine ⟨_, rfl, tb, B, dx, _, rfl, A12.ob, X.cls, X.nSpots, by show 5 < 1000; decide, ?_⟩
    have hod12 := ss12 _ _ hod11
    have hsg12 := ss12 _ _ hsg11
    have hth12 := ss12 _ _ hth11
    have hdl12 := ss12 _ _ hdl11
    generalize upd (upd H11 q4 (.lst [V.int 0])) sp (.lst (nV (List.replicate n 0))) = H12 at A12 hsp12 hod12 hsg12 hth12 hdl12 ⊢
    have A13 := A12.put (fs' := putF "spots" (.ref sp) (putF "deeds" (.ref dl) (putF "there" (.ref th) (putF "order" (.ref od) (putF "signs" (.ref sg) (putF "style" (.ref st) []))))))
    have pk : ∀ {c : Addr} {xs : List V}, H12 c = some (.lst xs) → upd H12 tb (.ins B dx (putF "spots" (.ref sp) (putF "deeds" (.ref dl) (putF "there" (.ref th) (putF "order" (.ref od) (putF "signs" (.ref sg) (putF "style" (.ref st) []))))))) c = some (.lst xs) := fun h => by rw [upd_ne (A12.lst h)]; exact h
    have hod13 := pk hod12
    have hsg13 := pk hsg12
    have hth13 := pk hth12
    have hdl13 := pk hdl12
    have hsp13 := pk hsp12
    generalize upd H12 tb (.ins B dx (putF "spots" (.ref sp) (putF "deeds" (.ref dl) (putF "there" (.ref th) (putF "order" (.ref od) (putF "signs" (.ref sg) (putF "style" (.ref st) []))))))) = H13 at A13 hod13 hsg13 hth13 hdl13 hsp13 ⊢
    clear pk A11 A12 ss12 hod12 hsg12 hth12 hdl12 hsp12 hod11 hsg11 hth11 hdl11 spn nsp11
    -- undone
    refine ⟨_, rfl, _, rfl, by omega, by omega, fun D nD => ?_⟩
    refine lc_range (n := n) (fun i H' => Same H13 H' ∧ ∃ ua : List Addr, H' D = some (.lst (ua.map V.ref)) ∧ ua.length = i ∧ ua.Nodup ∧ ∀ u ∈ ua, H' u = some (.lst []) ∧ H13 u = none ∧ u ≠ D) ⟨same_new nD, [], upd_same, rfl, List.nodup_nil, fun u hu => by cases hu⟩ ?_ ?_
    · rintro i H' hi ⟨x, ua, w1, w2, w3, w4⟩
      refine ⟨rfl, small0, fun u nu => ?_⟩
      have nuD : u ≠ D := fun e => by rw [e, w1] at nu; cases nu
      have nu13 := same_old x nu
      have y := same_new (o := .lst []) nu
      refine ⟨_, y _ _ w1, by rw [List.length_map]; omega, same_upd (same_trans x y) nD, ua ++ [u], by rw [upd_same, List.map_append]; rfl, by rw [List.length_append, w2]; rfl, ?_, fun v hv => ?_⟩
      · rw [List.nodup_append]
        refine ⟨w3, by simp, fun a ha b hb => ?_⟩
        rw [List.mem_singleton] at hb
        rw [hb]
        exact fun e => by have := (w4 a ha).1; rw [e, nu] at this; cases this
      · rcases List.mem_append.mp hv with h | h
        · obtain ⟨a1, a2, a3⟩ := w4 v h
          exact ⟨by rw [upd_ne a3]; exact y _ _ a1, a2, a3⟩
        · rw [List.mem_singleton] at h
          subst h
          exact ⟨by rw [upd_ne nuD, upd_same], nu13, nuD⟩
    · rintro H14 ⟨x, ua, w1, w2, w3, w4⟩
      have A14 : TStp B H1 tb dx _ H14 := ⟨x _ _ A13.ob, fun c o h m => x _ _ (A13.kp c o h m), fun b hb => A13.old b (same_old x hb)⟩
      refine ⟨_, rfl, tb, B, dx, _, rfl, A14.ob, X.cls, X.nUndone, by show 6 < 1000; decide, ?_⟩
      have A15 := A14.put (fs' := putF "undone" (.ref D) (putF "spots" (.ref sp) (putF "deeds" (.ref dl) (putF "there" (.ref th) (putF "order" (.ref od) (putF "signs" (.ref sg) (putF "style" (.ref st) [])))))))
      have pk : ∀ {c : Addr} {xs : List V}, H14 c = some (.lst xs) → upd H14 tb (.ins B dx (putF "undone" (.ref D) (putF "spots" (.ref sp) (putF "deeds" (.ref dl) (putF "there" (.ref th) (putF "order" (.ref od) (putF "signs" (.ref sg) (putF "style" (.ref st) [])))))))) c = some (.lst xs) := fun h => by rw [upd_ne (A14.lst h)]; exact h
      have hod := pk (x _ _ hod13)
      have hsg := pk (x _ _ hsg13)
      have hth := pk (x _ _ hth13)
      have hdl := pk (x _ _ hdl13)
      have hsp := pk (x _ _ hsp13)
      have hD := pk w1
      have hua : ∀ u ∈ ua, _ := fun u hu => pk (w4 u hu).1
      generalize upd H14 tb (.ins B dx (putF "undone" (.ref D) (putF "spots" (.ref sp) (putF "deeds" (.ref dl) (putF "there" (.ref th) (putF "order" (.ref od) (putF "signs" (.ref sg) (putF "style" (.ref st) [])))))))) = H15 at A15 hod hsg hth hdl hsp hD hua ⊢
      have nn : ∀ {c d : Addr} {o : HO}, H13 d = none → H13 c = some o → d ≠ c := fun h1 h2 e => by rw [e, h2] at h1; cases h1
      have on : ∀ {b : Addr}, H13 b = none → H b = none := fun h => x1.old _ (A13.old _ h)
      refine k ⟨dx, st, sg, od, th, dl, sp, D, [], ua⟩ H15 (fun c o h m n => A15.kp c o (x1.any h m) n) (fun c hc => ?_) ?_ (fun b hb => x1.old b (A15.old b hb)) ⟨A15.ob, hsg, hod, hth, ⟨hdl, rfl, fun i t d h _ => by cases h⟩, hsp, hD, ?_, fun i u l h1 h2 => ?_, ?_, fun c hc => ?_⟩
      · rcases hc with e | e | e | e | e | e | e | e
        · exact .inl e
        · exact .inr (e ▸ x1.old _ osg)
        · exact .inr (e ▸ x1.old _ ood)
        · exact .inr (e ▸ x1.old _ oth)
        · exact .inr (e ▸ x1.old _ odl)
        · exact .inr (e ▸ x1.old _ osp)
        · exact .inr (e ▸ on nD)
        · exact .inr (on (w4 c e).2.1)
      · intro q hq
        obtain ⟨ps', h1, h2⟩ := x1.tab q hq
        exact ⟨ps', A15.kp _ _ h1 (fun e => by rw [e, hob1] at h1; cases h1), h2⟩
      · show ua.length = (List.replicate n ([] : List Nat)).length
        rw [w2, List.length_replicate]
      · have h2 : (List.replicate n ([] : List Nat))[i]? = some l := h2
        have : l = [] := by
          rw [List.getElem?_replicate] at h2
          split at h2
          · cases h2; rfl
          · cases h2
        rw [this]
        exact hua u (List.mem_of_getElem? h1)
      · show (sp :: D :: ua).Nodup
        rw [List.nodup_cons, List.mem_cons, List.nodup_cons]
        refine ⟨fun e => ?_, fun e => (w4 D e).2.2 rfl, w3⟩
        rcases e with e | e
        · exact nn nD hsp13 e.symm
        · exact nn (w4 sp e).2.1 hsp13 rfl
      · have hc : c ∈ sp :: D :: ua := hc
        have g : H13 c = none → c ≠ sg ∧ c ≠ od ∧ c ≠ th ∧ c ≠ dl := fun h => ⟨nn h hsg13, nn h hod13, nn h hth13, nn h hdl13⟩
        rcases List.mem_cons.mp hc with e | e
        · rw [e]; exact dsp
        · rcases List.mem_cons.mp e with e | e
          · exact g (by rw [e]; exact nD)
          · exact g (w4 c e).2.1
end
end TG

namespace TG
open PySem PySem.Spec PyProof.Rows L2 NdefX GenW Gx Lv
/-! ### press -/
theorem vstr_ne' {a b : Str} : (!decide (V.str a = V.str b)) = decide (a ≠ b) := by simp
def MarkOk (z : Str) : Prop := z = tabS ∨ z = lineS ∨ ∃ c, z = ⟨#[c]⟩ ∧ SgOk c
theorem MarkOk.len {z : Str} (h : MarkOk z) : z.length = 1 := by
  rcases h with h | h | ⟨c, h, _⟩
  · rw [h]; decide +kernel
  · rw [h]; decide +kernel
  · rw [h]; rfl
def ordP (S : TSt) (h : Nat) : List Nat := S.order.take (S.order.idxOf (S.spots.getD h 0)) ++ [S.signs.length] ++ S.order.drop (S.order.idxOf (S.spots.getD h 0))
def deedP (S : TSt) (h : Nat) (z : Str) : List Deed := S.deeds ++ [((h, z, S.signs.length, true) : Deed)]
def pressR (S : TSt) (h : Nat) (z : Str) : TSt := { settleR S (S.signs ++ [z]) (ordP S h) (deedP S h z) with undone := S.undone.set h [] }
section
variable {P : Program} {w : World} {K : PySem.W.Frag} {mg : Str → Option Value} {base : Heap} {cs : List (Addr × Addr)} {B C G : Addr}
def spFilled (cs : List (Addr × Addr)) : Sp := fun vs H Q _ => ∃ (z : Str) (m : Int), vs = [.str z, .int m] ∧ Tabs cs H ∧ (z.length : Int) ≤ m ∧ z.length ≤ 1000 ∧ (∀ c ∈ z.cps.toList, SgOk c) ∧ z ≠ ("" : Str) ∧ ∀ H', Ex cs H H' → Q (.bl true) H'
theorem sc_filled : FnScope ["value", "most"] ["value", "most"] (defScope s_filled) := ⟨rfl, rfl, rfl, by decide +kernel, rfl, by decide +kernel, by decide +kernel⟩
theorem ok_filled {f g : Addr} {fd fdg : FuncData} (F : Fun K "is_filled" "is_filled" s_filled f fd)
    (W : FnOk P w K mg base CX0 5 g fdg ["value", "most"] (spText cs)) (kp : PySem.W.keepIn K (.ref g) = true) (bd : Binds K fdg ["value", "most"] []) (mgg : mg "is_text_of_signs" = some (.ref g)) : FnOk P w K mg base CX0 6 f fd ["value", "most"] (spFilled cs) := by
  refine F.ok sc_filled (fun vs H Q E h => ?_) (fun cdv A outer s H vs Q E hr h => ?_)
  · obtain ⟨z, m, rfl, _⟩ := h
    rfl
  · obtain ⟨z, m, rfl, hT, h1, h2, h3, hn, k⟩ := h
    refine ⟨_, pss_one (ps_ret (pe_and (pe_call W hr (by rfl) mgg kp bd .nil pass0 (pa_cons (pv 0) (pa_cons (pv 1) pa_nil))) (pe_one (pe_cmpR op_ne (pv 0) pe_str (nomark _))))), ?_⟩
    refine ⟨_, rfl, _, rfl, z, m, rfl, hT, h1, h2, h3, fun H1 x1 => ⟨true, rfl, iteT ⟨_, rfl, rfl, ?_⟩⟩⟩
    rw [vstr_ne', decide_eq_true hn]
    exact k H1 x1
def spMark (cs : List (Addr × Addr)) : Sp := fun vs H Q _ => ∃ z : Str, vs = [.str z] ∧ Tabs cs H ∧ MarkOk z ∧ ∀ H', Ex cs H H' → Q .non H'
theorem sc_cmark : FnScope ["sign"] ["sign"] (defScope s_check_mark) := ⟨rfl, rfl, rfl, by decide +kernel, rfl, by decide +kernel, by decide +kernel⟩
theorem ok_cmark {f g : Addr} {fd fdg : FuncData} (eT : ∃ t, mg "TAB" = some (.str tabS t)) (eL : ∃ t, mg "LINE_END" = some (.str lineS t)) (F : Fun K "check_mark" "check_mark" s_check_mark f fd)
    (W : FnOk P w K mg base CX0 6 g fdg ["value", "most"] (spFilled cs)) (kp : PySem.W.keepIn K (.ref g) = true) (bd : Binds K fdg ["value", "most"] []) (mgg : mg "is_filled" = some (.ref g)) : FnOk P w K mg base CX0 7 f fd ["sign"] (spMark cs) := by
  refine F.ok sc_cmark (fun vs H Q E h => ?_) (fun cdv A outer s H vs Q E hr h => ?_)
  · obtain ⟨z, rfl, _⟩ := h
    rfl
  · obtain ⟨z, rfl, hT, hz, k⟩ := h
    obtain ⟨tt, eT⟩ := eT
    obtain ⟨tl, eL⟩ := eL
    refine ⟨_, pss_one (ps_if (PW.pt (pw_and (pt_cmpR op_ne (pv 0) (pe_glob (v := .str tabS) rfl eT ⟨_, rfl⟩) (nomark _)) (pw_and (pt_cmpR op_ne (pv 0) (pe_glob (v := .str lineS) rfl eL ⟨_, rfl⟩) (nomark _)) (pw_and1 (pt_not (pt_val (pe_call W hr (by rfl) mgg kp bd .nil pass0 (pa_cons (pv 0) (pa_cons pe_int pa_nil)))))))))
      (pss_one ps_never) pss_nil), ?_⟩
    refine ⟨_, rfl, rfl, _, rfl, ?_⟩
    rw [vstr_ne']
    by_cases h : z = tabS
    · rw [decide_eq_false (by simp [h])]
      exact iteF (iteF (k H (Ex.refl hT)))
    · rw [decide_eq_true h]
      refine iteT ⟨_, rfl, rfl, _, rfl, ?_⟩
      rw [vstr_ne']
      by_cases h2 : z = lineS
      · rw [decide_eq_false (by simp [h2])]
        exact iteF (iteF (k H (Ex.refl hT)))
      · rw [decide_eq_true h2]
        obtain ⟨c, rfl, hc⟩ : ∃ c, z = ⟨#[c]⟩ ∧ SgOk c := by
          rcases hz with q | q | q
          · exact absurd q h
          · exact absurd q h2
          · exact q
        refine iteT ⟨_, rfl, _, _, rfl, hT, by show ((1 : Nat) : Int) ≤ 1; omega, by show 1 ≤ 1000; omega, fun d hd => ?_, fun e => ?_, fun H1 x1 => ⟨true, rfl, iteF (k H1 x1)⟩⟩
        · have hd : d ∈ [c] := hd
          rw [List.mem_singleton] at hd
          rw [hd]
          exact hc
        · have : (⟨#[c]⟩ : Str).length = ("" : Str).length := by rw [e]
          have e0 : ("" : Str).length = 0 := by decide +kernel
          rw [e0] at this
          cases this
def spPressT (cs : List (Addr × Addr)) (B TM : Addr) : Sp := fun vs H Q E => ∃ (tb : Addr) (h : Nat) (z : Str) (a : TA) (S : TSt), vs = [.ref tb, .int (h : Nat), .str z] ∧ Tabs cs H ∧ TabD B H tb a S ∧ TOk S ∧ h < S.spots.length ∧ MarkOk z ∧
  SetPre S (S.signs ++ [z]) (ordP S h) (deedP S h z) ∧
  (PgOk (pageR (S.signs ++ [z]) (ordP S h) (deedP S h z)) → Went cs B H tb a (pressR S h z) fun H' => Q .non H') ∧
  (¬ PgOk (pageR (S.signs ++ [z]) (ordP S h) (deedP S h z)) → ∀ H', Ex cs H H' → E (.ref TM) none H')
abbrev nmPressT : List Str := ["self", "hand", "sign", "mark", "order"]
theorem sc_press : FnScope nmPressT ["self", "hand", "sign"] (defScope (mth nTable 1)) := ⟨rfl, rfl, rfl, by decide +kernel, rfl, by decide +kernel, by decide +kernel⟩
theorem ok_pressT {TM : Addr} {f g1 g2 g3 : Addr} {fd fd1 fd2 fd3 : FuncData} (T : Txt mg) (X : TabC K B) (F : Fun K "press" "Table.press" (mth nTable 1) f fd)
    (M1 : Meth K B "check_hand" g1) (G1 : FnOk P w K mg base CX0 2 g1 fd1 ["self", "hand"] (spHand B)) (b1 : Binds K fd1 ["self", "hand"] [])
    (G2 : FnOk P w K mg base CX0 7 g2 fd2 ["sign"] (spMark cs)) (k2 : PySem.W.keepIn K (.ref g2) = true) (b2 : Binds K fd2 ["sign"] []) (m2 : mg "check_mark" = some (.ref g2))
    (M3 : Meth K B "settle" g3) (G3 : FnOk P w K mg base (L2.CX P w) 11 g3 fd3 ["self", "signs", "order", "deeds"] (spSettle cs B TM)) (b3 : Binds K fd3 ["self", "signs", "order", "deeds"] []) : FnOk P w K mg base (L2.CX P w) 12 f fd ["self", "hand", "sign"] (spPressT cs B TM) := by
  refine F.okX sc_press (fun vs H Q E h => ?_) (fun cdv A outer s H vs Q E hr h => ?_)
  · obtain ⟨tb, h, z, a, S, rfl, _⟩ := h
    rfl
  · obtain ⟨tb, h, z, a, S, rfl, hT, hD, hO, hh, hz, hS, k, kx⟩ := h
    have nd := sc_press.nd
    have r2 : Room 2 _ := hr.mono (by decide)
    have r7 : Room 7 _ := hr.mono (by decide)
    refine ⟨_, pss_cons (ps_expr (pe_meth (pv 0) X.cls M1 G1 r2 b1 .nil pass0 (pa_cons (pv 1) pa_nil)))
      (pss_cons (ps_expr (pe_call G2 r7 (by rfl) m2 k2 b2 .nil pass0 (pa_cons (pv 2) pa_nil)))
      (pss_cons (ps_set (i := 3) nd rfl (.inl rfl) (pe_callB call_len_seq (by rfl) T.len PySem.boot_len (pa_cons (pe_fld (pv 0) rfl) pa_nil)))
      (pss_cons (ps_set (i := 4) nd rfl (.inl rfl) (pe_callTy call_list_of (by rfl) T.list (by decide +kernel) (pa_cons (pe_fld (pv 0) rfl) pa_nil)))
      (pss_cons (ps_expr (pe_bm PySem.F.plainAttrs_list PySem.F.slot_list_insert PySem.F.type_list_insert mt_insert (pv 4) (pa_cons (pe_bm PySem.F.plainAttrs_list PySem.F.slot_list_index PySem.F.type_list_index mt_index (pv 4) (pa_cons (pe_ix ix_list (pe_fld (pv 0) rfl) (pv 1) (fun _ _ => rfl)) pa_nil)) (pa_cons (pv 3) pa_nil))))
      (pss_cons (ps_expr (pe_methS (pv 0) X.cls M3 G3 hr b3 (fun σ => passAt (takes_of rfl rfl rfl rfl) σ) (pa_cons (pe_op op_cat (pe_fld (pv 0) rfl) (pe_lst (pa_cons (pv 2) pa_nil))) (pa_cons (pv 4) (pa_cons (pe_op op_cat (pe_fld (pv 0) rfl) (pe_lst (pa_cons (pe_tup (pa_cons (pv 1) (pa_cons (pv 2) (pa_cons (pv 3) (pa_cons pe_bl pa_nil))))) pa_nil))) pa_nil)))))
      (pss_one (ps_asg (pe_lst pa_nil) (pg_sub (pe_fld (pv 0) rfl) (pv 1) set_list)))))))), ?_⟩
    refine ⟨_, rfl, tb, a.dx, _, rfl, hD.ob, rfl, _, rfl, tb, h, a, S, rfl, hD, hh, ?_⟩
    refine ⟨_, rfl, z, rfl, hT, hz, fun H1 e1 => ?_⟩
    have hD1 := hD.gw e1.ext
    refine ⟨_, rfl, tb, B, a.dx, _, _, rfl, hD1.ob, X.cls, X.nSigns, rfl, a.sg, _, rfl, .inl (SqL.of hD1.sg), ?_⟩
    refine ⟨_, rfl, tb, B, a.dx, _, _, rfl, hD1.ob, X.cls, X.nOrder, rfl, a.od, _, rfl, .inl (SqL.of hD1.od), fun O nO => ?_⟩
    have x2 : ∀ {o : HO}, Same H1 (upd H1 O o) := same_new nO
    have hs := getD_spot hh
    have mo : S.spots.getD h 0 ∈ S.order := by
      have := hO.sp _ (List.mem_of_getElem? hs)
      exact (List.mem_filter.mp this).1
    obtain ⟨g1', g2', g3'⟩ := idx_nat mo
    have ol := hO.ol
    have szl : (9000 : Nat) < sizeLine := by decide
    refine ⟨_, rfl, .inl ⟨rfl, _, SqL.of upd_same⟩, _, rfl, .inl ⟨rfl, _, SqL.of upd_same⟩, _, rfl, tb, B, a.dx, _, _, rfl, x2 _ _ hD1.ob, X.cls, X.nSpots, rfl, _, rfl, a.sp, _, _, _, rfl, rfl, SqL.of (x2 _ _ hD1.sp), atI_nat (nV_get hs), O, nV S.order, .int (S.spots.getD h 0 : Nat), S.order.idxOf (S.spots.getD h 0), .int (S.spots.getD h 0 : Nat), rfl, rfl, SqL.of upd_same, rfl, ints_flat _, nV_get g1', by simp [eqV], ints_no g3', _, rfl, O, nV S.order, _, _, rfl, rfl, upd_same, by rw [nV_len]; omega, by omega, by omega, ?_⟩
    rw [upd_upd]
    have eo : (nV S.order).take ((S.order.idxOf (S.spots.getD h 0) : Nat) : Int).toNat ++ [V.int (((sV S.signs).length : Nat) : Int)] ++ (nV S.order).drop ((S.order.idxOf (S.spots.getD h 0) : Nat) : Int).toNat = nV (ordP S h) := by
      unfold ordP nV sV
      rw [Int.toNat_natCast, List.map_append, List.map_append, List.map_take, List.map_drop, List.length_map]
      rfl
    rw [eo]
    have hO2 : upd H1 O (.lst (nV (ordP S h))) O = some (.lst (nV (ordP S h))) := upd_same
    have x2 := x2 (o := .lst (nV (ordP S h)))
    generalize upd H1 O (.lst (nV (ordP S h))) = H2 at x2 hO2 ⊢
    have hD2 := hD1.same x2
    have sm := hS.many
    rw [List.length_append] at sm
    have sm : S.signs.length + 1 ≤ 9000 := sm
    have dl : S.deeds.length + 1 ≤ 9000 := by have := hS.dn; unfold deedP at this; rw [List.length_append] at this; exact this
    refine ⟨_, rfl, tb, a.dx, _, rfl, hD2.ob, rfl, _, rfl, tb, B, a.dx, _, _, rfl, hD2.ob, X.cls, X.nSigns, rfl, _, rfl, by show 1 ≤ sizeLine; decide, fun q nq => ⟨a.sg, q, _, _, rfl, rfl, same_new nq _ _ hD2.sg, upd_same, by rw [List.length_map]; show S.signs.length + 1 ≤ sizeLine; omega, fun L1 nL1 => ?_⟩⟩
    have es : sV S.signs ++ [V.str z] = sV (S.signs ++ [z]) := by simp [sV]
    rw [es]
    have hL1 : upd (upd H2 q (.lst [V.str z])) L1 (.lst (sV (S.signs ++ [z]))) L1 = some (.lst (sV (S.signs ++ [z]))) := upd_same
    have x3 := same_trans (same_new (o := .lst [V.str z]) nq) (same_new (o := .lst (sV (S.signs ++ [z]))) nL1)
    have nL10 : H2 L1 = none := same_old (same_new nq) nL1
    generalize upd (upd H2 q (.lst [V.str z])) L1 (.lst (sV (S.signs ++ [z]))) = H3 at x3 hL1 ⊢
    have hD3 := hD2.same x3
    refine ⟨_, rfl, _, rfl, tb, B, a.dx, _, _, rfl, hD3.ob, X.cls, X.nDeeds, rfl, _, rfl, _, rfl, _, rfl, by show 4 ≤ sizeLine; decide, fun p np => ⟨by show 1 ≤ sizeLine; decide, fun q2 nq2 => ?_⟩⟩
    have el : (((sV S.signs).length : Nat) : Int) = ((S.signs.length : Nat) : Int) := by unfold sV; rw [List.length_map]
    have y1 := same_new (o := .tup [.int (h : Nat), .str z, .int ((sV S.signs).length : Nat), .bl true]) np
    have y2 := same_new (o := .lst [.ref p]) nq2
    have hq2 : upd (upd H3 p (.tup [.int (h : Nat), .str z, .int ((sV S.signs).length : Nat), .bl true])) q2 (.lst [.ref p]) q2 = some (.lst [.ref p]) := upd_same
    have hp : upd (upd H3 p (.tup [.int (h : Nat), .str z, .int ((sV S.signs).length : Nat), .bl true])) q2 (.lst [.ref p]) p = some (.tup (dV (h, z, S.signs.length, true))) := by
      rw [y2 _ _ (upd_same (H := H3) (a := p)), el]
      rfl
    have yy := same_trans y1 y2
    show rCat _ _ (upd (upd H3 p (.tup [.int (h : Nat), .str z, .int ((sV S.signs).length : Nat), .bl true])) q2 (.lst [.ref p])) _
    generalize upd (upd H3 p (.tup [.int (h : Nat), .str z, .int ((sV S.signs).length : Nat), .bl true])) q2 (.lst [.ref p]) = H4 at yy hq2 hp ⊢
    clear y1 y2
    have hD4 := hD3.same yy
    refine ⟨a.dl, q2, _, _, rfl, rfl, hD4.de.lst, hq2, by rw [List.length_map, hD.de.len]; show S.deeds.length + 1 ≤ sizeLine; omega, fun L3 nL3 => ?_⟩
    have em : a.da.map V.ref ++ [V.ref p] = (a.da ++ [p]).map V.ref := by rw [List.map_append]; rfl
    rw [em]
    have y3 := same_new (o := .lst ((a.da ++ [p]).map V.ref)) nL3
    have hL3 : upd H4 L3 (.lst ((a.da ++ [p]).map V.ref)) L3 = some (.lst ((a.da ++ [p]).map V.ref)) := upd_same
    have hp3 := y3 _ _ hp
    generalize upd H4 L3 (.lst ((a.da ++ [p]).map V.ref)) = H5 at y3 hL3 hp3 ⊢
    have x15 : Same H1 H5 := same_trans x2 (same_trans x3 (same_trans yy y3))
    have e5 := e1.trans (same_ex x15 e1.tab)
    have hD5 := hD1.same x15
    have nO1 : H1 O = none := nO
    have nL11 : H1 L1 = none := same_old x2 nL10
    have nL31 : H1 L3 = none := same_old x2 (same_old x3 (same_old yy nL3))
    have hO5 := y3 _ _ (yy _ _ (x3 _ _ hO2))
    have hL15 := y3 _ _ (yy _ _ hL1)
    have hdl : DeedsAt H5 L3 (a.da ++ [p]) (deedP S h z) := by
      refine ⟨hL3, by unfold deedP; rw [List.length_append, List.length_append, hD.de.len]; rfl, fun i t d h1 h2 => ?_⟩
      unfold deedP at h2
      by_cases c : i < S.deeds.length
      · rw [List.getElem?_append_left c] at h2
        rw [List.getElem?_append_left (by rw [hD.de.len]; exact c)] at h1
        exact hD5.de.at_ i t d h1 h2
      · rw [List.getElem?_append_right (by omega)] at h2
        rw [List.getElem?_append_right (by rw [hD.de.len]; omega), hD.de.len] at h1
        have z : i - S.deeds.length = 0 := by have := (List.getElem?_eq_some_iff.mp h2).1; simp at this; omega
        rw [z] at h1 h2
        cases h1
        cases h2
        exact hp3
    have ou : ∀ c ∈ a.ud :: a.ua, c ≠ L1 ∧ c ≠ O ∧ c ≠ L3 := fun c hc => by
      have : ∃ o, H1 c = some o := by
        rcases List.mem_cons.mp hc with e | e
        · exact ⟨_, e ▸ hD1.ud⟩
        · obtain ⟨i, hi⟩ := List.mem_iff_getElem?.mp e
          obtain ⟨l, hl⟩ := getP (xs := S.undone) (i := i) (by rw [← hD.ul]; exact (List.getElem?_eq_some_iff.mp hi).1)
          exact ⟨_, hD1.un i c l hi hl⟩
      obtain ⟨o, ho⟩ := this
      exact ⟨ne_of_none ho nL11, ne_of_none ho nO1, ne_of_none ho nL31⟩
    refine ⟨tb, L1, O, L3, a, S, S.signs ++ [z], ordP S h, deedP S h z, _, rfl, e5.tab, hD5, hL15, hO5, hdl, ou, hS, fun pg th sp H6 nth nsp kk t6 o6 hD6 => ?_, fun pg H6 x6 => kx pg H6 (e5.trans x6)⟩
    replace k := k pg
    have hu : h < S.undone.length := by rw [← hO.hn]; exact hh
    refine ⟨small0, fun n nn => ⟨_, rfl, tb, B, _, _, _, rfl, by rw [upd_ne (ne_of_none hD6.ob nn)]; exact hD6.ob, X.cls, X.nUndone, rfl, _, rfl, a.ud, _, _, h, rfl, rfl, by rw [upd_ne (ne_of_none hD6.ud nn)]; exact hD6.ud, ixN_nat (by rw [List.length_map, hD6.ul]; exact hu), ?_⟩⟩
    have y7 := same_new (o := .lst []) nn
    have hn7 : upd H6 n (.lst []) n = some (.lst (nV [])) := upd_same
    have n6 : ∀ {c : Addr} {o : HO}, H6 c = some o → n ≠ c := fun h z => by rw [← z, nn] at h; cases h
    generalize upd H6 n (.lst []) = H7 at y7 hn7 ⊢
    have hD7 := hD6.same y7
    have eset : (a.ua.map V.ref).set h (V.ref n) = (a.ua.set h n).map V.ref := by rw [List.map_set]
    have nua : n ∉ a.ua := fun z => by
      obtain ⟨i, hi⟩ := List.mem_iff_getElem?.mp z
      obtain ⟨l, hl⟩ := getP (xs := S.undone) (i := i) (by rw [← hD.ul]; exact (List.getElem?_eq_some_iff.mp hi).1)
      exact n6 (hD6.un i n l hi hl) rfl
    have hD8 := hD7.und0 (h := h) (l := []) hn7 hu ⟨n6 hD6.sp, n6 hD6.ud, nua⟩ ⟨n6 hD6.sg, n6 hD6.od, n6 hD6.th, n6 hD6.de.lst⟩
    dsimp only
    rw [eset]
    have n0 : H n = none := e5.old _ (o6 n nn)
    have old1 : ∀ {c : Addr}, H1 c = none → H c = none := fun z => e1.old _ z
    refine k _ _ (fun c o h m nn2 => ?_) (fun c hc => ?_) (tabs_lst (same_ex y7 t6).tab hD7.ud) (fun b hb => e5.old b (o6 b (same_old y7 (upd_old hD7.ud hb)))) hD8
    · rw [upd_ne (fun z => nn2 (by rw [z]; exact .inr (.inr (.inr (.inr (.inr (.inr (.inl rfl))))))))]
      exact y7 _ _ (kk c o (e5.any h m) m fun z => nn2 (.inl z))
    · rcases ownT_eq hc with z | z
      · rcases setA_own z with z | z | z | z | z | z
        · exact .inl z
        · exact .inr (z ▸ old1 nL11)
        · exact .inr (z ▸ old1 nO1)
        · exact .inr (z ▸ e5.old _ nth)
        · exact .inr (z ▸ old1 nL31)
        · exact .inr (z ▸ e5.old _ nsp)
      · rcases List.mem_or_eq_of_mem_set z with z | z
        · exact .inl (.inr (.inr (.inr (.inr (.inr (.inr (.inr z)))))))
        · exact .inr (z ▸ n0)
end
end TG

namespace TG
open PySem PySem.Spec PyProof.Rows L2 NdefX GenW Gx Lv
/-! ### list.count, flat items -/
theorem cntU {y : V} : ∀ {ys : List V} {its : List Value}, Vals ys its → ys.all flatV = true → its.countP (eqU y) = ys.countP (fun z => eqV z y)
  | [], _, .nil, _ => rfl
  | z :: ys, _, .cons r t, f => by
    rw [List.all_cons, Bool.and_eq_true] at f
    rw [List.countP_cons, List.countP_cons, eqU_of r f.1, cntU t f.2]
def rCnt (K : PySem.W.Frag) : V → List V → Hp → VK → Prop := fun x xs H Q => ∃ (a : Addr) (ys : List V) (y : V), x = .ref a ∧ xs = [y] ∧ SqL K H a ys ∧ flatV y = true ∧ ys.all flatV = true ∧ Q (.int (ys.countP (fun z => eqV z y) : Nat)) H
theorem mt_cnt {X : Cx} : MtR X "list.count" (rCnt X.K) := by
  intro pins s σ H x xs v us Q I rx rxs h
  obtain ⟨a, ys, y, rfl, rfl, hs, fy, fys, q⟩ := h
  cases rx
  obtain ⟨u, rfl, ru⟩ := rxs.one
  obtain ⟨its, rv, ⟨⟨cls, dd, data, sl⟩, n, ho, hc, hdn, hd⟩, hlen⟩ := I.list hs
  simp only at hc hd
  subst hc hd
  have ec : its.toArray.toList.countP (eqU y) = ys.countP (fun z => eqV z y) := cntU rv fys
  refine call_meets PySem.F.slot_list_count ⟨_, ho, rfl⟩ PySem.F.entry_list_count (PySem.F.args_list_count_2 _ _) (SeqAt.list_countAt a its.toArray n dd sl u (eqU y)) ⟨ho, fun w hw => mem_eqAt ru fy rv fys w (by simpa using hw), ?_⟩
  refine ⟨.int (ys.countP (fun z => eqV z y) : Nat), H, I.tok _, ⟨s.toks, ?_⟩, q⟩
  rw [← ec]
/-! ### isinstance and fields of a caught error -/
/-- its dict, if it has one, is told of -/
def XdAt (H : Hp) (d : Option Addr) : Prop := d = none ∨ ∃ dd fs, d = some dd ∧ H dd = some (.xd fs)
def rIsX (K : PySem.W.Frag) (cls : Value) (d : Option Addr) (a : Addr) : List V → Hp → VK → Prop := fun xs H Q => ∃ (c : V) (cv : Value) (b : Bool) (D : Addr), xs = [.ref a, c] ∧ cls = .ref D ∧ ExcC K D ∧ (∀ u, RelV c u → u = cv) ∧ PySem.W.kitOne K (.ref D) cv = some b ∧ XdAt H d ∧ Q (.bl b) H
theorem isCls_of {K : PySem.W.Frag} {D : Addr} (h : PySem.W.hasDictIn K D = true) : (PySem.W.clsIn K D).isSome = true := by
  obtain ⟨cd, hc, _⟩ := PySem.W.any_some h
  rw [hc]
  rfl
section
variable {X : Cx} {a : Addr} {oe : Obj} {cls : Value} {d : Option Addr} {pn : List (Addr × Obj)}
theorem call_isX (hz : Zc cls d oe) (hf : ∃ vs, oe.data = .fields vs) : CallR (X.suite a ((a, oe) :: pn)) (.builtin "isinstance") (rIsX X.K cls d a) := by
  intro pins s σ H xs us Q I r h
  obtain ⟨c, cv, b, D, rfl, rfl, C, hcv, e, hd, q⟩ := h
  cases r with
  | cons rx rr =>
    cases rr with
    | cons rt rr =>
      cases rr
      cases rx
      have ec := hcv _ rt
      subst ec
      obtain ⟨hget, _⟩ := I.pin (a, oe) (List.mem_append.mpr (.inl List.mem_cons_self))
      obtain ⟨vs, hv⟩ := hf
      have nc : PySem.W.notCls oe = true := by
        unfold PySem.W.notCls
        rw [hv] <;> rfl
      have fin : ∀ tk, EP (X.suite a ((a, oe) :: pn)) pins σ Q (.bool b) { s with toks := tk } := fun tk => ⟨.bl b, H, I.kept (t' := tk) fun _ _ z => z, rfl, q⟩
      rcases hd with rfl | ⟨dd, fs, rfl, hdd⟩
      · have J : PySem.W.InstAt s.heap a oe D none := by
          obtain ⟨h1, h2⟩ := hz
          refine ⟨hget, h1, nc, ?_⟩
          rw [h2]
          trivial
        exact PySem.W.kia_one (PySem.W.kitx_exc (isCls_of C.hd) C.hg C.hk C.hs C.ha C.hn C.ht C.hm) I.kIn J e (fun z => nomatch z) fin
      · have hx : ObjOk X.prog X.w H s.heap dd (.xd fs) := I.hok dd _ hdd
        obtain ⟨mA, hns, _⟩ := hx
        obtain ⟨od, ho, _⟩ := lookIn_ns hns
        have J : PySem.W.InstAt s.heap a oe D (some od) := ⟨hget, hz.1, nc, by rw [hz.2]; exact ho⟩
        exact PySem.W.kia_one (PySem.W.kitx_exc (isCls_of C.hd) C.hg C.hk C.hs C.ha C.hn C.ht C.hm) I.kIn J e (fun z => nomatch z) fin
def tXfX (K : PySem.W.Frag) (a : Addr) (cls : Value) (d : Option Addr) (f : Str) (te : TE) : TE := fun σ H Q => ∃ C : Addr, XfC K C ∧ PySem.W.findIn K (.ref C) f = some none ∧ tXf a cls d C f te σ H Q
theorem pe_xfX {e : Expr} {te : TE} {pos : Pos} {n : Str} (hz : Zc cls d oe) (hf : ∃ vs, oe.data = .fields vs) (he : PE (X.suite a ((a, oe) :: pn)) e te) (hb : attributeBase e n X.env (eval e X.env) = eval e X.env := by rfl) :
    PE (X.suite a ((a, oe) :: pn)) (.Attribute e n pos) (tXfX X.K a cls d n te) := by
  refine ⟨fun pins s σ H Q I h => ?_⟩
  obtain ⟨C, T, hno, h⟩ := h
  exact (pe_xf T hno hz hf he hb).run pins s σ H Q I h
end
/-! ### rules for an except suite, whose readings don't speak of the error's object -/
section
variable {X : Cx} {a : Addr} {l : List (Addr × Obj)}
theorem ix_listU : IxR (X.suite a l) (rIxL X.K) := ix_list
theorem op_inU : OpR (X.suite a l) (compareOp .In) (rIn X.K false) := op_in_seq
theorem mt_cntU : MtR (X.suite a l) "list.count" (rCnt X.K) := mt_cnt
theorem mt_indexU : MtR (X.suite a l) "list.index" (rIndex X.K) := mt_index
theorem pe_bmU {T name id : String} {r : V → List V → Hp → VK → Prop} {o e : Expr} {es : List Expr} {to : TE} {t : L2.TA} {apos cpos : Pos} (pa : PlainAttrs T) (slot : Slot T (name : Str) id) (hty : typeOf (.builtin id) = pure (.type "method_descriptor")) (hm : MtR (X.suite a l) id r)
    (ho : PE (X.suite a l) o to) (ha : PA (X.suite a l) (e :: es) t) (hbase : attributeBase o (name : Str) X.env (eval o X.env) = eval o X.env := by rfl)
    (hfew : ((backTo cpos (starEach (e :: es) X.env)).all (fun x => !x.1) && (backToKw cpos (keywordEach [] X.env)).all (fun x => x.1.isSome) && decide ((e :: es).length + ([] : List Keyword).length + (if ([] : List Keyword).isEmpty then 0 else 1) < 30)) = true := by rfl)
    (hline : (apos.endLine == cpos.line) = true := by rfl) (hs : starEach (e :: es) X.env = (false, eval e X.env) :: starEach es X.env := by rfl) (hplain : (backTo cpos (starEach es X.env)).any (·.1) = false := by rfl) :
    PE (X.suite a l) (.Call (.Attribute o (name : Str) apos) (e :: es) [] cpos) (tBM X.K T r to t) := pe_bm pa slot hty hm ho ha hbase hfew hline hs hplain
end
theorem xfC_of {K : PySem.W.Frag} {C : Addr} (h : ExcC K C) : XfC K C := ⟨h.hg, h.hk, h.hs, h.hd⟩
/-! ### a call by name of a lambda without parameters, in a try -/
def tCallX (P : Program) (w : World) (K : PySem.W.Frag) (mg : Str → Option Value) (base : Heap) (k i : Nat) (W : WX) : TE := fun σ H Q => ∃ (f : Addr) (F : NF) (e : Expr) (sp : Sp), σ[i]? = some (some (.ref f)) ∧ H f = some (FnL f F e) ∧ H F.c = some (LamX.CodeO F.c F.qual) ∧ LOkX P w K mg base k f F e sp ∧ sp [] H Q (WE W σ)
theorem pe_callX {X : Cx} {W : WX} {i k : Nat} {x : Str} {p pos : Pos} {P : Program} {w : World} {K : PySem.W.Frag} {mg : Str → Option Value} {base : Heap} (eX : X.prog = P ∧ X.w = w ∧ X.K = K ∧ X.mg = mg ∧ X.base = base) (hr : Room k X.A) (tk : Takes X W) (hN : X.N[i]? = some x) (hv : Vis X.env.scope x) (hd : (x == ("__debug__" : Str)) = false := by decide) (hcd : (x == ("__classdict__" : Str)) = false := by decide) :
    PE X (.Call (.Name x p) [] [] pos) (tCallX P w K mg base k i W) := by
  obtain ⟨rfl, rfl, rfl, rfl, rfl⟩ := eX
  refine ⟨fun pins s σ H Q I h => ?_⟩
  obtain ⟨f, F, b, sp, hs, hf, hc, L, q⟩ := h
  refine wpAny_Call_Name_kw (thn ((pe_var (pos := p) hN hv hd hcd).run pins s σ H (fun v H1 => v = .ref f ∧ H1 = H) I ⟨.ref f, hs, rfl, rfl⟩) fun u s1 ⟨v, H1, I1, r1, q1⟩ => ?_)
  obtain ⟨ev, eH⟩ := q1
  subst ev eH
  obtain rfl : u = Value.ref f := r1
  have at_ : PySem.W.FnAt f s1.heap := by
    obtain ⟨od, sl, pm, ctv, ho⟩ := fnL_at I1.hok hf
    exact ⟨_, od, _, sl, ho⟩
  refine PySem.W.callWith_F0 (first := []) at_ ?_
  refine wpAny_call (codeAny_mono (L.run X.A X.stack s1 H1 Q (WE W σ) hr I1.env0 hf hc q) fun r' s' hq => ?_)
  cases r' with
  | error er => exact passAt tk σ pins H1 s1 er s' I1 hq
  | ok fl =>
    cases fl with
    | ret u => exact I1.after hq
    | next => exact False.elim hq
    | brk => exact False.elim hq
    | cont => exact False.elim hq
end TG

namespace TG
open PySem PySem.Spec PyProof.Rows L2 NdefX GenW Gx Lv
/-! ### cells told of, and what a lambda caught -/
theorem caught_of {cells : List (Str × Addr)} {N names fr : List Str} {σ : L2.St} {cl : List (Addr × Obj)} {F : NF} {ws : List (Option V)} {H : Hp} (T : ToldC cells N names σ cl) (hF : F.cl = cloFrom cells F.scope.names [])
    (hfr : ∀ y, (y, NameKind.free) ∈ F.scope.names → y ∈ fr) (hrf : ∀ y ∈ fr, (y, NameKind.free) ∈ F.scope.names) (hsub : ∀ y ∈ fr, y ∈ names) (len : ws.length = fr.length) (told : ∀ c o, cl.lookup c = some o → H c = some (cellF o))
    (hw : ∀ (i : Nat) (y : Str) (v : V), fr[i]? = some y → ws[i]? = some (some v) → ∃ j : Nat, N[j]? = some y ∧ σ[j]? = some (some v)) : Caught F fr ws cl H := by
  have at_ : ∀ y c, F.cl.lookup y = some c → y ∈ fr ∧ ∃ o v, cells.lookup y = some c ∧ cl.lookup c = some o ∧ o.data = .cell v := fun y c e => by
    rw [hF] at e
    rcases cloFrom_mem (PySem.mem_of_lookup e) with z | ⟨z, hc⟩
    · cases z
    · have hy := hfr y z
      obtain ⟨c', o, v, e1, e2, e3⟩ := T.all y (hsub y hy)
      rw [e1] at hc
      have hc : c = c' := hc
      subst hc
      exact ⟨hy, o, v, e1, e2, e3⟩
  refine ⟨len, told, fun y c e => ?_, fun x y c e1 e2 => ?_, fun i y e => ?_⟩
  · obtain ⟨_, o, v, _, h2, h3⟩ := at_ y c e
    exact ⟨o, v, h2, h3⟩
  · obtain ⟨_, _, _, h1, _⟩ := at_ x c e1
    obtain ⟨_, _, _, h2, _⟩ := at_ y c e2
    exact T.inj x y c h1 h2
  · have hy : y ∈ fr := List.mem_of_getElem? e
    have hm := cloFrom_has (cells := cells) (acc := []) (hrf y hy)
    have hs : ∃ c, F.cl.lookup y = some c := by
      rw [hF]
      cases q : (cloFrom cells F.scope.names []).lookup y with
      | some c => exact ⟨c, rfl⟩
      | none =>
        have := List.lookup_eq_none_iff.mp q _ hm
        simp at this
    obtain ⟨c, hc⟩ := hs
    obtain ⟨_, o, v0, h1, h2, h3⟩ := at_ y c hc
    refine ⟨c, hc, fun v hv => ?_⟩
    obtain ⟨j, hj1, hj2⟩ := hw i y v e hv
    obtain ⟨u, e1, e2⟩ := T.val y (hsub y hy) c o h1 h2 j v hj1 hj2
    exact ⟨o, u, h2, e1, e2⟩
section
variable {cs : List (Addr × Addr)} {H H' : Hp} {cl : List (Addr × Obj)}
theorem add_at (un : ∀ c o, cl.lookup c = some o → H c = none) {b : Addr} {o : HO} (h : H b = some o) : addC H cl b = some o := by
  cases r : cl.lookup b with
  | some u => rw [un b u r] at h; cases h
  | none => rw [addC_out r]; exact h
theorem del_at (un : ∀ c o, cl.lookup c = some o → H c = none) {b : Addr} {o : HO} (h : H b = some o) : cl.lookup b = none := by
  cases r : cl.lookup b with
  | some u => rw [un b u r] at h; cases h
  | none => rfl
theorem add_none {D : Addr} (h : addC H cl D = none) : cl.lookup D = none ∧ H D = none := by
  cases r : cl.lookup D with
  | some u => rw [addC_in r] at h; cases h
  | none => rw [addC_out r] at h; exact ⟨rfl, h⟩
theorem del_upd_add (un : ∀ c o, cl.lookup c = some o → H c = none) {D : Addr} {o : HO} (hD : cl.lookup D = none) : delC (upd (addC H cl) D o) cl = upd H D o := by
  funext b
  cases r : cl.lookup b with
  | some u =>
    rw [delC_in r, upd_ne (fun z => by rw [z, hD] at r; cases r)]
    exact (un b u r).symm
  | none =>
    rw [delC_out r]
    by_cases hb : b = D
    · rw [hb, upd_same, upd_same]
    · rw [upd_ne hb, upd_ne hb, addC_out r]
theorem tabs_add (un : ∀ c o, cl.lookup c = some o → H c = none) (t : Tabs cs H) : Tabs cs (addC H cl) := fun p hp => by
  obtain ⟨ps, h1, h2⟩ := t p hp
  exact ⟨ps, add_at un h1, h2⟩
/-- what came of a heap with the cells told, the cells untold again -/
theorem ex_del (un : ∀ c o, cl.lookup c = some o → H c = none) (told : ∀ c o, cl.lookup c = some o → H' c = some (cellF o)) (x : Ex cs (addC H cl) H') : Ex cs H (delC H' cl) := by
  refine ⟨fun b o h n => ?_, fun p hp => ?_, fun b h => ?_, fun b o h n => ?_⟩
  · rw [delC_out (del_at un h)]
    exact x.ext b o (add_at un h) n
  · obtain ⟨ps, h1, h2⟩ := x.tab p hp
    have r : cl.lookup p.2 = none := by
      cases r : cl.lookup p.2 with
      | none => rfl
      | some u => rw [told _ u r] at h1; cases h1
    exact ⟨ps, by rw [delC_out r]; exact h1, h2⟩
  · cases r : cl.lookup b with
    | some u => exact un b u r
    | none =>
      rw [delC_out r] at h
      exact (add_none (x.old b h)).2
  · rw [delC_out (del_at un h)]
    exact x.oth b o (add_at un h) n
end
end TG

namespace Dl
open PySem PySem.Spec PyProof.Rows L2 NdefX GenW Lv
/-! Lambdas of one parameter, whose default is a whole number, and that capture cells. -/
/-- the function's data, its defaults in a tuple -/
def fnD (name qual : Str) (params : Arguments) (body : Expr) (scope : Scope) (cl : List (Str × Addr)) (pm cdv ct : Value) (dV : Value) : FuncData :=
  { name := name, qualname := qual, params := params, body := .expr body, scope := scope, globals := mainGlobals, closure := cl, defaults := dV, kwdefaults := .none, pyModule := pm, code := cdv, closureTuple := ct, builtins := builtinsNs }
def objD (name qual : Str) (params : Arguments) (body : Expr) (scope : Scope) (cl : List (Str × Addr)) (pm : Value) (c' : Addr) (ct : Value) (dV : Value) : Obj := { cls := .type "function", data := .func (fnD name qual params body scope cl pm (.ref c') ct dV) }
theorem makeTail {M : Model} {A : Around} {E : Value → Shared → Prop} {s : Shared} {name qual : Str} {params : Arguments} {body : Expr} {scope : Scope} {env : Env} {c P : Addr} {ps : Array Value} {pos : Pos} {firstLine : Nat} {mg : Str → Option Value} {q : Str × Addr} {r : List (Str × Addr)} {dV : Value} {Q : Value → Shared → Prop}
    (hcl : closureFor scope env = pure (q :: r)) (hge0 : env.globals = mainGlobals) (hg : s.heap.Ns mainGlobals mg) (hcode : env.code = .ref c) (C : PySem.W.CodeHd s.heap c P) (hP : s.heap.get? P = some (PySem.W.tabObj ps)) (ht : TriplesOk ps.toList) (hnf : codeAmong pos ps.toList = none)
    (hgP : mainGlobals ≠ P) (hb : s.heap.BuiltinsAt mg P)
    (h : ∀ (c' : Nat) (ctv : Value) (h' : Heap) (tk : Nat), Heap.ExtBut P s.heap h' → s.heap.objs.size ≤ c' → c' < h'.objs.size → h'.CodeRec (.ref c') qual → h'.get? P = some (PySem.W.tabObj (ps ++ #[rawInt pos.line, rawInt pos.col, .ref c'])) →
      Q (.ref h'.objs.size) { heap := h'.push (objD name qual params body scope (q :: r) ((mg "__name__").getD .none) c' ctv dV), gens := s.gens, drawn := s.drawn, toks := tk, os := s.os }) :
    wpAny M A (PySem.makeTail name qual params (.expr body) scope env dV .none none pos firstLine) Q E s := by
  obtain ⟨bm, ob, hbm, hne0, hl, hneP, hbo, hcls, hdict, hdata⟩ := hb
  unfold PySem.makeTail
  rw [hcl, hge0]
  refine wpAny_bind (wpAny_pure ?_)
  rw [if_neg (by simp)]
  refine wpAny_bind (wpAny_newTextTuple ?_)
  refine wpAny_bind (wpAny_functionCodeX hcode (PySem.W.CodeHd.code (C.keeps fun b o e => Heap.get?_push_of_some _ e) (Heap.get?_push_of_some _ hP) ht) (PySem.W.CodeHd.tab (C.keeps fun b o e => Heap.get?_push_of_some _ e) (Heap.get?_push_of_some _ hP)) hnf fun c' h' tk hx hge hlt x hrec htb x_1 => ?_)
  have hg' := Heap.Ns.extBut (Heap.Ns.push hg _) hx hgP
  have hx' : Heap.ExtBut P s.heap h' := fun b o hb' e => hx b o hb' (Heap.get?_push_of_some _ e)
  have hge' : s.heap.objs.size ≤ c' := by
    have hge2 : s.heap.objs.size + 1 ≤ c' := by
      have := hge
      rw [Heap.size_push] at this
      exact this
    omega
  refine wpAny_bind (wpAny_builtinsFor hg' hbm hne0 (hx' bm ob hneP hbo) hcls hdict hdata (wpAny_bind (wpAny_nsGet hg' (wpAny_bind (wpAny_pure (wpAny_newObj_type (h c' _ h' tk hx' hge' hlt hrec htb.2) ?_))))))
  simp [sizeOk]
theorem makeTailHit {M : Model} {A : Around} {E : Value → Shared → Prop} {s : Shared} {name qual : Str} {params : Arguments} {body : Expr} {scope : Scope} {env : Env} {c P c' : Addr} {ps : Array Value} {pos : Pos} {firstLine : Nat} {mg : Str → Option Value} {q : Str × Addr} {r : List (Str × Addr)} {dV : Value} {Q : Value → Shared → Prop}
    (hcl : closureFor scope env = pure (q :: r)) (hge0 : env.globals = mainGlobals) (hg : s.heap.Ns mainGlobals mg) (hcode : env.code = .ref c) (C : PySem.W.CodeHd s.heap c P) (hP : s.heap.get? P = some (PySem.W.tabObj ps)) (ht : TriplesOk ps.toList) (hh : codeAmong pos ps.toList = some (.ref c'))
    (hb : s.heap.BuiltinsAt mg P)
    (h : ∀ (ctv : Value) (h' : Heap) (tk : Nat), (∀ (b : Addr) (o : Obj), s.heap.get? b = some o → h'.get? b = some o) → s.heap.objs.size ≤ h'.objs.size →
      Q (.ref h'.objs.size) { heap := h'.push (objD name qual params body scope (q :: r) ((mg "__name__").getD .none) c' ctv dV), gens := s.gens, drawn := s.drawn, toks := tk, os := s.os }) :
    wpAny M A (PySem.makeTail name qual params (.expr body) scope env dV .none none pos firstLine) Q E s := by
  obtain ⟨bm, ob, hbm, hne0, hl, hneP, hbo, hcls, hdict, hdata⟩ := hb
  unfold PySem.makeTail
  rw [hcl, hge0]
  refine wpAny_bind (wpAny_pure ?_)
  rw [if_neg (by simp)]
  refine wpAny_bind (wpAny_newTextTuple ?_)
  refine wpAny_bind (wpAny_functionCode_hit hcode (PySem.W.CodeHd.code (C.keeps fun b o e => Heap.get?_push_of_some _ e) (Heap.get?_push_of_some _ hP) ht) hh ?_)
  have hg' := Heap.Ns.push hg { cls := Value.type "tuple", data := Data.seq (List.map (fun x => Value.ref x.snd) ((q :: r).mergeSort fun a b => decide (a.fst.cps.toList ≤ b.fst.cps.toList))).toArray }
  refine wpAny_bind (wpAny_builtinsFor hg' hbm hne0 (Heap.get?_push_of_some _ hbo) hcls hdict hdata (wpAny_bind (wpAny_nsGet hg' (wpAny_bind (wpAny_pure (wpAny_newObj_type (h _ _ _ (fun b o e => Heap.get?_push_of_some _ e) (by rw [Heap.size_push]; exact Nat.le_succ _)) ?_))))))
  simp [sizeOk]
/-- the object at f is the lambda F of the body e, its defaults at t -/
def FnD (f : Addr) (F : NF) (e : Expr) (t : Addr) : HO := .ext fun h => ∃ (od : Option Addr) (sl : Array (Option Value)) (pm ctv : Value), h.get? f = some (⟨.type "function", od, .func (fnD F.name F.qual F.params e F.scope F.cl pm (.ref F.c) ctv (.ref t)), sl⟩ : Obj)
theorem fnD_at {P : Program} {w : World} {H : Hp} {h : Heap} {f : Addr} {F : NF} {e : Expr} {t : Addr} (hok : HOk P w H h) (q : H f = some (FnD f F e t)) : ∃ (od : Option Addr) (sl : Array (Option Value)) (pm ctv : Value), h.get? f = some (⟨.type "function", od, .func (fnD F.name F.qual F.params e F.scope F.cl pm (.ref F.c) ctv (.ref t)), sl⟩ : Obj) := by
  have z := hok f _ q
  obtain ⟨z, _, _⟩ := z
  exact z
theorem fnD_ne {f : Addr} {F : NF} {e : Expr} {t : Addr} (ps : Array Value) : FnD f F e t ≠ .tbl ps := fun z => by
  unfold FnD at z
  cases z
section
variable {X : Cx} {pins : List (Addr × Obj)} {σ : L2.St} {H : Hp} {s : Shared}
theorem inv_lamD {F : NF} {e : Expr} {t : Addr} {tk : Nat} {pm ctv : Value} (I : Inv X pins σ H s) :
    Inv X pins σ (upd H s.heap.objs.size (FnD s.heap.objs.size F e t)) { s with heap := s.heap.push (objD F.name F.qual F.params e F.scope F.cl pm F.c ctv (.ref t)), toks := tk } := by
  refine I.laid (a := s.heap.objs.size) (fun b u q => Heap.get?_push_of_some _ q) (Nat.le_refl _) ?_
  have q : (s.heap.push (objD F.name F.qual F.params e F.scope F.cl pm F.c ctv (.ref t))).get? s.heap.objs.size = some (objD F.name F.qual F.params e F.scope F.cl pm F.c ctv (.ref t)) := Heap.get?_push_size _ rfl
  exact ⟨⟨_, _, pm, ctv, q⟩, ⟨_, q⟩, fun h1 h2 ⟨od, sl, p, t, z⟩ st => ⟨od, sl, p, t, st _ z⟩⟩
theorem inv_tup0 {v : V} {u : Value} (I : Inv X pins σ H s) (r : RelV v u) :
    Inv X pins σ (upd H s.heap.objs.size (.tup [v])) { s with heap := s.heap.push { cls := Value.type "tuple", data := Data.seq [u].toArray } } :=
  I.laid (t' := s.toks) (fun b u e => Heap.get?_push_of_some _ e) (Nat.le_refl _) ⟨by show 1 ≤ sizeLine; decide, [u], .cons r .nil, _, Heap.get?_push_size s.heap rfl, rfl, 0, rfl⟩
/-- a lambda with one default is made -/
theorem lam_valD {c P : Addr} {params : Arguments} {body d : Expr} {scope : Scope} {pos : Pos} {Q : Value → Shared → Prop} {q0 : Str × Addr} {r0 : List (Str × Addr)} {v : V} (I : Inv X pins σ H s) (B : LamX.TabB X.base X.mg c P) (hcode : X.env.code = .ref c)
    (hT : LamX.TabS H P (X.env.qual ++ "<lambda>")) (hdef : params.defaults = [d]) (hkw : params.kw_defaults = []) (hko : params.kwonlyargs = []) (hd : PE X d (tC v)) (hfree : ∀ y ∈ scope.names, y.2 = .free → ∃ c, X.env.cells.lookup y.1 = some c) (hclo : cloFrom X.env.cells scope.names [] = q0 :: r0)
    (k : ∀ (f c' t : Addr) (H1 : Hp) (s' : Shared), Inv X pins σ H1 s' → (∀ b o, H b = some o → b ≠ P → H1 b = some o) → (∀ b, H1 b = none → H b = none) → LamX.TabS H1 P (X.env.qual ++ "<lambda>") → H f = none →
      H1 f = some (FnD f ⟨"<lambda>", X.env.qual ++ "<lambda>", params, [], scope, cloFrom X.env.cells scope.names [], c'⟩ body t) → H1 c' = some (LamX.CodeO c' (X.env.qual ++ "<lambda>")) → H1 t = some (.tup [v]) → Q (.ref f) s') :
    wpAny (model X.prog X.w) X.A (eval (.Lambda params body scope pos) X.env) Q X.xe s := by
  refine PySem.W.kdv_lam (by rw [hdef]; rfl) hkw ?_
  rw [hdef]
  show wpAny _ _ (evalAll (eval d X.env :: [])) _ _ _
  refine evalAll_cons (thn (hd.run pins s σ H (fun x H1 => x = v ∧ H1 = H) I ⟨rfl, rfl⟩) fun u s1 ⟨x, H1, I1, ru, ex, eH⟩ => ?_)
  subst ex
  subst eH
  refine wpAny_pure ?_
  rw [makeFunction_eq]
  simp only [List.isEmpty_cons, hko, List.zip_nil_left, List.filterMap_nil, List.isEmpty_nil, if_true, Bool.false_eq_true, if_false]
  refine wpAny_bind (wpAny_newTextTuple ?_)
  refine wpAny_bind (wpAny_pure ?_)
  refine wpAny_bind (wpAny_pure ?_)
  have I2 := inv_tup0 I1 ru
  have nt := I1.hok.fresh (Nat.le_refl s1.heap.objs.size)
  have ht2 : upd H1 s1.heap.objs.size (.tup [x]) s1.heap.objs.size = some (.tup [x]) := upd_same
  have kp2 : ∀ b o, H1 b = some o → upd H1 s1.heap.objs.size (.tup [x]) b = some o := fun b o e => by rw [upd_ne (ne_of_none e nt)]; exact e
  have np2 : ∀ b, upd H1 s1.heap.objs.size (.tup [x]) b = none → H1 b = none := fun b e => by
    unfold upd at e
    split at e
    · cases e
    · exact e
  obtain ⟨ps, tP0, tok, tin0⟩ := hT
  have tP := kp2 _ _ tP0
  have tin : ∀ pos cv, codeAmong pos ps.toList = some cv → ∃ c0, cv = .ref c0 ∧ upd H1 s1.heap.objs.size (.tup [x]) c0 = some (LamX.CodeO c0 (X.env.qual ++ "<lambda>")) := fun pos cv e => by
    obtain ⟨c0, e1, e2⟩ := tin0 pos cv e
    exact ⟨c0, e1, kp2 _ _ e2⟩
  generalize upd H1 s1.heap.objs.size (.tup [x]) = H2 at I2 ht2 kp2 np2 tP tin ⊢
  generalize s1.heap.objs.size = t at ht2 ⊢
  generalize hs2 : ({ heap := s1.heap.push { cls := Value.type "tuple", data := Data.seq [u].toArray }, gens := s1.gens, drawn := s1.drawn, toks := s1.toks, os := s1.os } : Shared) = s2 at I2 ⊢
  have bP : s2.heap.BuiltinsAt X.mg P := B.bm.keeps I2.bk
  have gP : s2.heap.get? P = some { cls := .none, data := .fields ps } := I2.hok P _ tP
  have none3 : ∀ {G : Hp} {x y z : Addr} {o u v : HO} {b : Addr}, upd (upd (upd G x o) y u) z v b = none → G b = none := fun {G x y z o u v b} q => by
    have r1 := q
    unfold upd at r1
    split at r1
    · cases r1
    split at r1
    · cases r1
    split at r1
    · cases r1
    exact r1
  have hclf : closureFor scope X.env = pure (q0 :: r0) := by rw [← hclo]; exact closure_ok hfree
  cases hc : codeAmong pos ps.toList with
  | some cv =>
    obtain ⟨c', e, hco⟩ := tin pos cv hc
    subst e
    refine makeTailHit (mg := X.mg) (c := c) (P := P) (ps := ps) hclf I2.ok.glob (I2.mod.glob.keeps I2.bk) hcode (B.code.keeps I2.bk) gP tok hc bP fun ctv h' tk hx2 hsz => ?_
    have I3 : Inv X pins σ H2 { s2 with heap := h', toks := tk } := I2.kept hx2
    have nF : H2 h'.objs.size = none := I3.hok.fresh (Nat.le_refl _)
    have I4 := inv_lamD (F := ⟨"<lambda>", X.env.qual ++ "<lambda>", params, [], scope, cloFrom X.env.cells scope.names [], c'⟩) (e := body) (t := t) (tk := tk) (pm := (X.mg "__name__").getD .none) (ctv := ctv) I3
    rw [hclo] at I4
    refine k h'.objs.size c' t _ _ I4 (fun b o q _ => by rw [upd_ne (ne_of_none (kp2 _ _ q) nF)]; exact kp2 _ _ q) (fun b q => np2 b ?_) ⟨ps, by rw [upd_ne (ne_of_none tP nF)]; exact tP, tok, fun p' cv' q => ?_⟩ (np2 _ nF) (by rw [upd_same, hclo]) (by rw [upd_ne (ne_of_none hco nF)]; exact hco) (by rw [upd_ne (ne_of_none ht2 nF)]; exact ht2)
    · unfold upd at q
      split at q
      · cases q
      · exact q
    · obtain ⟨c0, e1, e2⟩ := tin p' cv' q
      exact ⟨c0, e1, by rw [upd_ne (ne_of_none e2 nF)]; exact e2⟩
  | none =>
    refine makeTail (mg := X.mg) (c := c) (P := P) (ps := ps) hclf I2.ok.glob (I2.mod.glob.keeps I2.bk) hcode (B.code.keeps I2.bk) gP tok hc B.gP bP fun c' ctv h' tk hx2 hge hlt hrec htb => ?_
    obtain ⟨c2, oc, vs, t2, e2, hoc, hd2, hv⟩ := hrec
    cases e2
    have nC : H2 c' = none := I2.hok.fresh hge
    have I3 := LamX.inv_table (t' := tk) (more := #[rawInt pos.line, rawInt pos.col, .ref c']) (h' := h') I2 tP (fun b o hb q => hx2 b o hb q) htb hge ⟨oc, vs, t2, hoc, hd2, hv⟩
    have nF := I3.hok.fresh (Nat.le_refl _)
    have I4 := inv_lamD (F := ⟨"<lambda>", X.env.qual ++ "<lambda>", params, [], scope, cloFrom X.env.cells scope.names [], c'⟩) (e := body) (t := t) (tk := tk) (pm := (X.mg "__name__").getD .none) (ctv := ctv) I3
    rw [hclo] at I4
    have fC : h'.objs.size ≠ c' := Nat.ne_of_gt hlt
    have pC : P ≠ c' := ne_of_none tP nC
    have nF0 : H2 h'.objs.size = none := I2.hok.fresh (Nat.le_trans hge (Nat.le_of_lt hlt))
    have pF : P ≠ h'.objs.size := ne_of_none tP nF0
    have eL : (ps ++ #[rawInt pos.line, rawInt pos.col, .ref c']).toList = ps.toList ++ [rawInt pos.line, rawInt pos.col, .ref c'] := by simp
    have kk : ∀ b o, H2 b = some o → b ≠ P → upd (upd (upd H2 P (.tbl (ps ++ #[rawInt pos.line, rawInt pos.col, .ref c']))) c' (LamX.CodeO c' (X.env.qual ++ "<lambda>"))) h'.objs.size (FnD h'.objs.size ⟨"<lambda>", X.env.qual ++ "<lambda>", params, [], scope, q0 :: r0, c'⟩ body t) b = some o := fun b o q hb => by
      rw [upd_ne (ne_of_none q nF0), upd_ne (ne_of_none q nC), upd_ne hb]
      exact q
    refine k h'.objs.size c' t _ _ I4 (fun b o q hb => kk b o (kp2 _ _ q) hb) (fun b q => np2 b (none3 q)) ⟨_, by rw [upd_ne pF, upd_ne pC, upd_same], by rw [eL]; exact PySem.TriplesOk_snoc _ _ _ _ tok, fun p' cv q => ?_⟩ (np2 _ nF0) (by rw [upd_same, hclo]) (by rw [upd_ne fC.symm, upd_same]) (kk t _ ht2 fun e => by rw [e, tP] at ht2; cases ht2)
    rw [eL] at q
    rcases LamX.among_app _ tok q with z | z
    · obtain ⟨c0, e1, e2⟩ := tin p' cv z
      exact ⟨c0, e1, kk _ _ e2 (fun y => by rw [y, tP] at e2; exact LamX.codeO_ne ps (Option.some.inj e2).symm)⟩
    · exact ⟨c', z, by rw [upd_ne fC.symm, upd_same]⟩
end
end Dl

namespace Dl
open PySem PySem.Spec PyProof.Rows L2 NdefX GenW Lv
theorem bind1 {M : Model} {A : Around} {E : Value → Shared → Prop} {s : Shared} {name qual nm : Str} {params : Arguments} {body : Expr} {scope : Scope} {cl : List (Str × Addr)} {pm cdv ct u : Value} {t : Addr} {o : Obj} {n : Nat} {Q : List (Str × Value) → Shared → Prop}
    (hp : params.posonlyargs = []) (ha : params.args.map (·.arg) = [nm]) (hk : params.kwonlyargs = []) (hv : params.vararg = none) (hkw : params.kwarg = none) (ho : s.heap.get? t = some o) (hd : o.data = .seq #[u] n) (h : Q [(nm, u)] s) :
    wpAny M A (bindArgs (fnD name qual params body scope cl pm cdv ct (.ref t)) ⟨[], []⟩) Q E s := by
  unfold bindArgs
  simp only [fnD, hp, ha, hk, hv, hkw, List.map_nil, List.nil_append, List.zip_nil_right, List.forIn_nil]
  refine wpAny_bind (wpAny_pure ?_)
  refine wpAny_bind (wpAny_seqItems ho hd ?_)
  simp
  exact wpAny_pure h
end Dl

namespace TG
open PySem PySem.Spec PyProof.Rows L2 NdefX GenW Gx Lv Dl
/-! ### works: lambdas that are called without anything, with or without a default -/
structure LamW (P : Program) (w : World) (K : PySem.W.Frag) (mg : Str → Option Value) (base : Heap) (k : Nat) (f : Addr) (Hf : Hp → Prop) (sp : Sp) : Prop where
  at_ : ∀ {H : Hp} {h : Heap}, HOk P w H h → Hf H → PySem.W.FnAt f h
  run : ∀ (A : Around) (outer : List Env) (s : Shared) (H : Hp) (Q : VK) (E : XK), Room k A → Env0 P w K mg base A outer s H → Hf H → sp [] H Q E →
    codeAny (model P w) A (.call (.ref f) ⟨[], []⟩) (CR (L2.CX P w) outer P w H s Q E) s
/-- a lambda without parameters stands -/
def HfL (f : Addr) (F : NF) (e : Expr) (H : Hp) : Prop := H f = some (FnL f F e) ∧ H F.c = some (LamX.CodeO F.c F.qual)
/-- one with a default -/
def HfD (f : Addr) (F : NF) (e : Expr) (t : Addr) (v : V) (H : Hp) : Prop := H f = some (FnD f F e t) ∧ H F.c = some (LamX.CodeO F.c F.qual) ∧ H t = some (.tup [v])
theorem HfL.ex {cs : List (Addr × Addr)} {f : Addr} {F : NF} {e : Expr} {H H' : Hp} (h : HfL f F e H) (x : Ex cs H H') : HfL f F e H' :=
  ⟨x.ext _ _ h.1 fun ps => fnL_ne ps, x.ext _ _ h.2 fun ps => LamX.codeO_ne ps⟩
theorem HfD.ex {cs : List (Addr × Addr)} {f : Addr} {F : NF} {e : Expr} {t : Addr} {v : V} {H H' : Hp} (h : HfD f F e t v H) (x : Ex cs H H') : HfD f F e t v H' :=
  ⟨x.ext _ _ h.1 fun ps => fnD_ne ps, x.ext _ _ h.2.1 fun ps => LamX.codeO_ne ps, x.tup h.2.2⟩
section
variable {P : Program} {w : World} {K : PySem.W.Frag} {mg : Str → Option Value} {base : Heap}
theorem lamw_l {k : Nat} {f : Addr} {F : NF} {e : Expr} {sp : Sp} (L : LOkX P w K mg base k f F e sp) : LamW P w K mg base k f (HfL f F e) sp :=
  ⟨fun {H h} hok q => by
    obtain ⟨od, sl, pm, ctv, ho⟩ := fnL_at hok q.1
    exact ⟨_, od, _, sl, ho⟩, fun A outer s H Q E hr e0 h hsp => L.run A outer s H Q E hr e0 h.1 h.2 hsp⟩
theorem lamw_d {k : Nat} {f t : Addr} {F : NF} {e : Expr} {N fr : List Str} {nm : Str} {v : V} {sp : Sp} (S : NScope N [nm] fr F.scope) (hp : F.params.posonlyargs = []) (ha : F.params.args.map (·.arg) = [nm]) (hk : F.params.kwonlyargs = []) (hv : F.params.vararg = none) (hkw : F.params.kwarg = none) (hloc : F.scope.names.lookup nm = some .local)
    (hbody : ∀ (A : Around) (outer : List Env) (s : Shared) (H : Hp) (Q : VK) (E : XK), Room k (A.deeper (envF F f s.heap.objs.size)) → sp [] H Q E → ∃ (ws : List (Option V)) (cl : List (Addr × Obj)) (t : TE), Caught F fr ws cl H ∧
      PE (ncx (L2.CX P w) P w K mg base N F f A outer s (delC H cl) (fun cls d H' => (∀ c o, cl.lookup c = some o → H' c = none) → E cls d (addC H' cl))) e t ∧ t (startF N [v] ws) (delC H cl) (fun v H' => (∀ c o, cl.lookup c = some o → H' c = none) → Q v (addC H' cl))) :
    LamW P w K mg base (k + 1) f (HfD f F e t v) sp := by
  refine ⟨fun {H h} hok q => ?_, fun A outer s H Q E hr e0 hfd hsp => ?_⟩
  · obtain ⟨od, sl, pm, ctv, ho⟩ := fnD_at hok q.1
    exact ⟨_, od, _, sl, ho⟩
  obtain ⟨hf, hc, ht0⟩ := hfd
  have lim : s.heap.NoLimit := e0.mod.nolimit.keeps fun b o q => (e0.bs b o q).1
  obtain ⟨od, sl, pm, ctv, ho⟩ := fnD_at e0.hok hf
  obtain ⟨ws, cl, tm, C, ht, hq⟩ := hbody A outer s H Q E (hr.deeper _) hsp
  obtain ⟨_, us, rv, ot, hot, hoc, n, hod⟩ := e0.hok t _ ht0
  obtain ⟨u, rfl, ru⟩ : ∃ u, us = [u] ∧ RelV v u := by
    cases rv with
    | cons r rest => cases rest; exact ⟨_, rfl, r⟩
  have hnf : ∀ c o, cl.lookup c = some o → c ∉ frs outer := fun c o q hb => by
    have z := e0.frf c hb
    rw [C.told c o q] at z
    cases z
  have at0 : ∀ c o, cl.lookup c = some o → s.heap.get? c = some o := fun c o q => (e0.hok c _ (C.told c o q)).1
  refine codeAny_mono (R := CR (L2.CX P w) outer P w (delC H cl) s (fun v H' => (∀ c o, cl.lookup c = some o → H' c = none) → Q v (addC H' cl)) (fun cls d H' => (∀ c o, cl.lookup c = some o → H' c = none) → E cls d (addC H' cl))) ?_ fun r s' q => ?_
  · have e1 := env_del e0 C.told
    refine PySem.W.kla_callFunE hr.depth ho rfl S.co S.gen rfl (codeO_at e0.hok hc) ?_
    refine bind1 hp ha hk hv hkw hot hod ?_
    refine wpAny_newFunctionEnv S.nocell (fun ⟨n, _⟩ hy => by rw [List.mem_singleton] at hy; injection hy with h1 _; rw [h1]; exact hloc) (fun h₁ hns hsb => ⟨lim.fresh _ hsb, ?_⟩) S.kind
    have kp : ∀ b o, s.heap.get? b = some o → h₁.get? b = some o := fun b o q => hsb.extBut b o (Nat.ne_of_lt (Heap.lt_size q)) (Heap.get?_push_of_some _ q)
    have CA : NdefX.CellsAt F.cl fr ws s.heap (delC H cl) := by
      refine ⟨C.len, fun y c q => ?_, C.inj, fun i y q => ?_⟩
      · obtain ⟨o, v, h1, h2⟩ := C.all y c q
        exact ⟨delC_in h1, v, o, at0 c o h1, h2⟩
      · obtain ⟨c, h1, h2⟩ := C.has i y q
        refine ⟨c, h1, fun v hv => ?_⟩
        obtain ⟨o, u, h3, h4, h5⟩ := h2 v hv
        exact ⟨u, h5, o, at0 c o h3, h4⟩
    have I := inv_startN (CX := L2.CX P w) (P := P) (w := w) (E := fun cls d H' => (∀ c o, cl.lookup c = some o → H' c = none) → E cls d (addC H' cl)) (f := f) (tk := s.toks + (([nm] : List Str).zip ([u] : List Value)).length) S hr.hd e1 (vs := [v]) (us := [u]) rfl (.cons ru .nil) CA hns kp
    refine PySem.W.kla_codeExpr (wpAny_mono (ht.run [] _ (startF N [v] ws) (delC H cl) _ I hq) (fun v s' q => ?_) fun e' s' q => q)
    obtain ⟨w', H', J, rv, q⟩ := q
    exact ⟨w', H', J.os, J.bare, J.base, J.hok, rv, q⟩
  · cases r with
    | error er => exact cx_add e0.hok (fun c o q => ⟨C.told c o q, hnf c o q⟩) q
    | ok fl =>
      cases fl with
      | ret u => exact ce_add e0.hok (fun c o q => ⟨C.told c o q, hnf c o q⟩) q
      | next => exact False.elim q
      | brk => exact False.elim q
      | cont => exact False.elim q
end
/-! ### a call of such a work by a local's name, in a try -/
def tCallW (P : Program) (w : World) (K : PySem.W.Frag) (mg : Str → Option Value) (base : Heap) (k i : Nat) (W : WX) : TE := fun σ H Q => ∃ (f : Addr) (Hf : Hp → Prop) (sp : Sp), σ[i]? = some (some (.ref f)) ∧ Hf H ∧ LamW P w K mg base k f Hf sp ∧ sp [] H Q (WE W σ)
theorem pe_callW {X : Cx} {W : WX} {i k : Nat} {x : Str} {p pos : Pos} {P : Program} {w : World} {K : PySem.W.Frag} {mg : Str → Option Value} {base : Heap} (eX : X.prog = P ∧ X.w = w ∧ X.K = K ∧ X.mg = mg ∧ X.base = base) (hr : Room k X.A) (tk : Takes X W) (hN : X.N[i]? = some x) (hv : Vis X.env.scope x) (hd : (x == ("__debug__" : Str)) = false := by decide) (hcd : (x == ("__classdict__" : Str)) = false := by decide) :
    PE X (.Call (.Name x p) [] [] pos) (tCallW P w K mg base k i W) := by
  obtain ⟨rfl, rfl, rfl, rfl, rfl⟩ := eX
  refine ⟨fun pins s σ H Q I h => ?_⟩
  obtain ⟨f, Hf, sp, hs, hf, L, q⟩ := h
  refine wpAny_Call_Name_kw (thn ((pe_var (pos := p) hN hv hd hcd).run pins s σ H (fun v H1 => v = .ref f ∧ H1 = H) I ⟨.ref f, hs, rfl, rfl⟩) fun u s1 ⟨v, H1, I1, r1, q1⟩ => ?_)
  obtain ⟨ev, eH⟩ := q1
  subst ev eH
  obtain rfl : u = Value.ref f := r1
  have at_ := L.at_ I1.hok hf
  refine PySem.W.callWith_F0 (first := []) at_ ?_
  refine wpAny_call (codeAny_mono (L.run X.A X.stack s1 H1 Q (WE W σ) hr I1.env0 hf q) fun r' s' hq => ?_)
  cases r' with
  | error er => exact passAt tk σ pins H1 s1 er s' I1 hq
  | ok fl =>
    cases fl with
    | ret u => exact I1.after hq
    | next => exact False.elim hq
    | brk => exact False.elim hq
    | cont => exact False.elim hq
/-! ### such a lambda is made -/
def tLamD (P : Addr) (q : Str) (params : Arguments) (body : Expr) (scope : Scope) (cl : List (Str × Addr)) (v : V) : TE := fun _ H Q => LamX.TabS H P q ∧ ∀ (f c' t : Addr) (H1 : Hp), (∀ b o, H b = some o → b ≠ P → H1 b = some o) → (∀ b, H1 b = none → H b = none) → LamX.TabS H1 P q → H f = none →
  HfD f ⟨"<lambda>", q, params, [], scope, cl, c'⟩ body t v H1 → Q (.ref f) H1
theorem pe_lamD {X : Cx} {c P : Addr} {params : Arguments} {body d : Expr} {scope : Scope} {pos : Pos} {v : V} (B : LamX.TabB X.base X.mg c P) (hcode : X.env.code = .ref c) (hdef : params.defaults = [d]) (hkw : params.kw_defaults = []) (hko : params.kwonlyargs = []) (hd : PE X d (tC v))
    (hfr : ∀ y ∈ scope.names, y.2 = .free → X.env.kindOf y.1 = some .cell ∨ X.env.kindOf y.1 = some .free) (hne : ∃ y ∈ scope.names, y.2 = .free) :
    PE X (.Lambda params body scope pos) (tLamD P (X.env.qual ++ "<lambda>") params body scope (cloFrom X.env.cells scope.names []) v) := by
  refine ⟨fun pins s σ H Q I h => ?_⟩
  obtain ⟨hT, h⟩ := h
  have hfree : ∀ y ∈ scope.names, y.2 = .free → ∃ c, X.env.cells.lookup y.1 = some c := fun y hy e => I.ok.has _ (hfr y hy e)
  obtain ⟨y, hy, ey⟩ := hne
  obtain ⟨cy, hcy⟩ := hfree y hy ey
  cases hq : cloFrom X.env.cells scope.names [] with
  | nil =>
    have hm := @cloFrom_has X.env.cells scope.names [] y.1 (by rw [← ey]; exact hy)
    rw [hq] at hm
    cases hm
  | cons q0 r0 =>
    rw [hq] at h
    exact lam_valD I B hcode hT hdef hkw hko hd hfree hq fun f c' t H1 s' J k1 k2 t1 nf hf hc ht => ⟨.ref f, H1, J, rfl, h f c' t H1 k1 k2 t1 nf ⟨by rw [← hq]; exact hf, hc, ht⟩⟩
end TG

namespace TG
open PySem PySem.Spec PyProof.Rows L2 NdefX GenW Gx Lv
section
variable {P : Program} {w : World} {K : PySem.W.Frag} {mg : Str → Option Value} {base : Heap} {cs : List (Addr × Addr)} {B C G : Addr}
/-! ### _law_could -/
def spCould (P : Program) (w : World) (K : PySem.W.Frag) (mg : Str → Option Value) (base : Heap) (G : Addr) (kl : Nat) : Sp := fun vs H Q _ => ∃ (f : Addr) (Hf : Hp → Prop) (sp : Sp),
  vs = [.ref f] ∧ Hf H ∧ LamW P w K mg base kl f Hf sp ∧
  ∀ (Z : VK) (E : XK), (∀ v H', Q v H' → Z v H') → (∀ (cls : Value) H', PySem.W.exmOne K cls (.ref G) = some true → Q (.str "refused") H' → E cls none H') → sp [] H Z E
theorem sc_could : FnScope ["_law_work", "_law_found"] ["_law_work"] (defScope s_could) := ⟨rfl, rfl, rfl, by decide +kernel, rfl, by decide +kernel, by decide +kernel⟩
theorem ok_could {f : Addr} {fd : FuncData} {kl : Nat} (eG : mg "GrowError" = some (.ref G)) (F : Fun K "_law_could" "_law_could" s_could f fd) :
    FnOk P w K mg base CX0 (kl + 1) f fd ["_law_work"] (spCould P w K mg base G kl) := by
  refine F.ok sc_could (fun vs H Q E h => ?_) (fun cdv A outer s H vs Q E hr h => ?_)
  · obtain ⟨f, Hf, sp, rfl, _⟩ := h
    rfl
  · obtain ⟨fl, Hf, sp, rfl, hf, L, k⟩ := h
    have nd := sc_could.nd
    refine ⟨_, pss_cons (ps_set (i := 1) nd rfl (.inl rfl) pe_non)
      (pss_cons (ps_try_many rfl rfl takes0 (fun W pn xe tk _ => pss_one (ps_set (i := 1) nd rfl (.inl rfl) (pe_callW (P := P) (w := w) (K := K) (mg := mg) (base := base) (k := kl) (i := 0) ⟨rfl, rfl, rfl, rfl, rfl⟩ hr tk rfl (.inl rfl))))
        (.cons ⟨rfl, by decide, .inl eG⟩ (fun a oe cls d pn _ _ => pss_one (ps_set (i := 1) nd rfl (.inl rfl) pe_str)) .nil))
      (pss_one (ps_ret (pv 1)))), ?_⟩
    exact ⟨fl, Hf, sp, rfl, hf, L, k _ _ (fun v H' q => ⟨_, rfl, q⟩) fun cls H' e q => ⟨true, e, fun _ a na => ⟨_, rfl, q⟩, fun z => nomatch z⟩⟩
end
end TG

namespace TG
open PySem PySem.Spec PyProof.Rows L2 NdefX GenW Gx Lv Dl
/-! ### the works of _law_done -/
abbrev LamT := Arguments × Expr × Scope
def sc00 : Scope := { kind := .function, names := [], isGenerator := false, isCoroutine := false }
def lam00 : LamT := ({ posonlyargs := [], args := [], vararg := none, kwonlyargs := [], kw_defaults := [], kwarg := none, defaults := [] }, .Name "x" ⟨0, 0, 0, 0⟩, sc00)
def lamOf : Expr → LamT
  | .Lambda p b sc _ => (p, b, sc)
  | _ => lam00
def stAt (l : List Stmt) (i : Nat) : Stmt := l.getD i (.Pass ⟨0, 0, 0, 0⟩)
def retLam : Stmt → LamT
  | .If _ (.Return (some (.Call _ [e] _ _)) _ :: _) _ _ => lamOf e
  | _ => lam00
def disLam (i : Nat) : Stmt → LamT
  | .Assign _ (.Dict _ vs _) _ => lamOf (vs.getD i (.Name "x" ⟨0, 0, 0, 0⟩))
  | _ => lam00
def asgLam : Stmt → LamT
  | .Assign _ e _ => lamOf e
  | _ => lam00
abbrev lamP : LamT := retLam (stAt (defBody s_done) 0)
abbrev lamU : LamT := disLam 0 (stAt (defBody s_done) 1)
abbrev lamK : LamT := disLam 1 (stAt (defBody s_done) 1)
abbrev lamG : LamT := asgLam (stAt (defBody s_done) 2)
abbrev qD : Str := ("_law_done" : Str) ++ ".<locals>." ++ "<lambda>"
abbrev cap2 : List Str := ["_law_table", "_law_hand"]
abbrev cap3 : List Str := ["_law_table", "_law_hand", "_law_what"]
theorem sc_lp : NScope cap3 [] cap3 lamP.2.2 := nscope_by (by decide +kernel)
theorem sc_lu : NScope cap2 [] cap2 lamU.2.2 := nscope_by (by decide +kernel)
theorem sc_lk : NScope ["_law_a", "_law_table", "_law_hand"] ["_law_a"] cap2 lamK.2.2 := nscope_by (by decide +kernel)
theorem sc_lg : NScope ["_law_b", "_law_table", "_law_hand"] ["_law_b"] cap2 lamG.2.2 := nscope_by (by decide +kernel)
theorem key_a : lamK.2.2.names.lookup ("_law_a" : Str) = some .local := by decide +kernel
theorem key_b : lamG.2.2.names.lookup ("_law_b" : Str) = some .local := by decide +kernel
section
variable {P : Program} {w : World} {K : PySem.W.Frag} {mg : Str → Option Value} {base : Heap} {cs : List (Addr × Addr)} {B C CB : Addr}
/-- what such a work tells: a method of the table that it caught, of the hand that it caught -/
def spLam2 (sp : Sp) (F : NF) : Sp := fun vs H Q E => vs = [] ∧ ∃ (tb : Addr) (h : Nat) (cl : List (Addr × Obj)) (dx : Addr) (fs : List (Str × V)), Caught F cap2 [some (.ref tb), some (.int (h : Nat))] cl H ∧ delC H cl tb = some (.ins B dx fs) ∧ fs.lookup ("rub" : Str) = none ∧ fs.lookup ("back" : Str) = none ∧ fs.lookup ("again" : Str) = none ∧
  sp [.ref tb, .int (h : Nat)] (delC H cl) (fun v H' => (∀ c o, cl.lookup c = some o → H' c = none) → Q v (addC H' cl)) (fun cls d H' => (∀ c o, cl.lookup c = some o → H' c = none) → E cls d (addC H' cl))
theorem lok_u {q : Str} {c' f g : Addr} {fdg : FuncData} {lc : List (Str × Addr)} {sp : Sp} (X : TabC K B) (M : Meth K B "rub" g) (G : FnOk P w K mg base (L2.CX P w) 13 g fdg ["self", "hand"] sp) (bd : Binds K fdg ["self", "hand"] []) :
    LamW P w K mg base 14 f (HfL f ⟨"<lambda>", q, lamU.1, [], lamU.2.2, lc, c'⟩ lamU.2.1) (spLam2 (B := B) sp ⟨"<lambda>", q, lamU.1, [], lamU.2.2, lc, c'⟩) := by
  refine lamw_l (lokx_of (N := cap2) (fr := cap2) sc_lu (fun pm ctv => rfl) fun A outer s H Q E hr h => ?_)
  obtain ⟨_, tb, h, cl, dx, fs, hC, hob, l1, l2, l3, hsp⟩ := h
  refine ⟨[some (.ref tb), some (.int (h : Nat))], cl, _, hC, pe_methS (pv 0) X.cls M G hr bd (fun σ => passAt (takes_of rfl rfl rfl rfl) σ) (pa_cons (pv 1) pa_nil), ?_⟩
  exact ⟨_, rfl, tb, dx, fs, rfl, hob, l1, _, rfl, hsp⟩
theorem lok_k {q : Str} {c' f g t : Addr} {fdg : FuncData} {lc : List (Str × Addr)} {v : V} {sp : Sp} (X : TabC K B) (M : Meth K B "back" g) (G : FnOk P w K mg base (L2.CX P w) 13 g fdg ["self", "hand"] sp) (bd : Binds K fdg ["self", "hand"] []) :
    LamW P w K mg base 14 f (HfD f ⟨"<lambda>", q, lamK.1, [], lamK.2.2, lc, c'⟩ lamK.2.1 t v) (spLam2 (B := B) sp ⟨"<lambda>", q, lamK.1, [], lamK.2.2, lc, c'⟩) := by
  refine lamw_d (N := ["_law_a", "_law_table", "_law_hand"]) (fr := cap2) (nm := "_law_a") sc_lk rfl rfl rfl rfl rfl key_a fun A outer s H Q E hr h => ?_
  obtain ⟨_, tb, h, cl, dx, fs, hC, hob, l1, l2, l3, hsp⟩ := h
  refine ⟨[some (.ref tb), some (.int (h : Nat))], cl, _, hC, pe_methS (pv 1) X.cls M G hr bd (fun σ => passAt (takes_of rfl rfl rfl rfl) σ) (pa_cons (pv 2) pa_nil), ?_⟩
  exact ⟨_, rfl, tb, dx, fs, rfl, hob, l2, _, rfl, hsp⟩
theorem lok_g {q : Str} {c' f g t : Addr} {fdg : FuncData} {lc : List (Str × Addr)} {v : V} {sp : Sp} (X : TabC K B) (M : Meth K B "again" g) (G : FnOk P w K mg base (L2.CX P w) 13 g fdg ["self", "hand"] sp) (bd : Binds K fdg ["self", "hand"] []) :
    LamW P w K mg base 14 f (HfD f ⟨"<lambda>", q, lamG.1, [], lamG.2.2, lc, c'⟩ lamG.2.1 t v) (spLam2 (B := B) sp ⟨"<lambda>", q, lamG.1, [], lamG.2.2, lc, c'⟩) := by
  refine lamw_d (N := ["_law_b", "_law_table", "_law_hand"]) (fr := cap2) (nm := "_law_b") sc_lg rfl rfl rfl rfl rfl key_b fun A outer s H Q E hr h => ?_
  obtain ⟨_, tb, h, cl, dx, fs, hC, hob, l1, l2, l3, hsp⟩ := h
  refine ⟨[some (.ref tb), some (.int (h : Nat))], cl, _, hC, pe_methS (pv 1) X.cls M G hr bd (fun σ => passAt (takes_of rfl rfl rfl rfl) σ) (pa_cons (pv 2) pa_nil), ?_⟩
  exact ⟨_, rfl, tb, dx, fs, rfl, hob, l3, _, rfl, hsp⟩
def spLam3 (sp : Sp) (F : NF) : Sp := fun vs H Q E => vs = [] ∧ ∃ (tb : Addr) (h : Nat) (wt : Addr) (s : Str) (cl : List (Addr × Obj)) (dx : Addr) (fs : List (Str × V)), Caught F cap3 [some (.ref tb), some (.int (h : Nat)), some (.ref wt)] cl H ∧ delC H cl tb = some (.ins B dx fs) ∧ fs.lookup ("press" : Str) = none ∧ delC H cl wt = some (.tup [.str "press", .str s]) ∧
  sp [.ref tb, .int (h : Nat), .str s] (delC H cl) (fun v H' => (∀ c o, cl.lookup c = some o → H' c = none) → Q v (addC H' cl)) (fun cls d H' => (∀ c o, cl.lookup c = some o → H' c = none) → E cls d (addC H' cl))
theorem lok_p {q : Str} {c' f g : Addr} {fdg : FuncData} {lc : List (Str × Addr)} {sp : Sp} (X : TabC K B) (M : Meth K B "press" g) (G : FnOk P w K mg base (L2.CX P w) 13 g fdg ["self", "hand", "sign"] sp) (bd : Binds K fdg ["self", "hand", "sign"] []) :
    LamW P w K mg base 14 f (HfL f ⟨"<lambda>", q, lamP.1, [], lamP.2.2, lc, c'⟩ lamP.2.1) (spLam3 (B := B) sp ⟨"<lambda>", q, lamP.1, [], lamP.2.2, lc, c'⟩) := by
  refine lamw_l (lokx_of (N := cap3) (fr := cap3) sc_lp (fun pm ctv => rfl) fun A outer s H Q E hr h => ?_)
  obtain ⟨_, tb, h, wt, z, cl, dx, fs, hC, hob, l1, hw, hsp⟩ := h
  refine ⟨[some (.ref tb), some (.int (h : Nat)), some (.ref wt)], cl, _, hC, pe_methS (pv 0) X.cls M G hr bd (fun σ => passAt (takes_of rfl rfl rfl rfl) σ) (pa_cons (pv 1) (pa_cons (pe_ix ix_tup (pv 2) pe_int (fun _ _ => rfl)) pa_nil)), ?_⟩
  exact ⟨_, rfl, tb, dx, fs, rfl, hob, l1, _, rfl, _, rfl, wt, _, 1, .str z, rfl, rfl, SqT.of hw, atI_nat (j := 1) rfl, hsp⟩
end
end TG

namespace TG
open PySem PySem.Spec PyProof.Rows L2 NdefX GenW Gx Lv Dl
/-! ### a deed of a hand: what comes of it -/
theorem fn_up {P : Program} {w : World} {K : PySem.W.Frag} {mg : Str → Option Value} {base : Heap} {CX : L2.CXT} {k k' : Nat} {f : Addr} {fd : FuncData} {ps : List Str} {sp : Sp} (F : FnOk P w K mg base CX k f fd ps sp) (h : k ≤ k') : FnOk P w K mg base CX k' f fd ps sp :=
  ⟨F.len, fun A outer s H args us vs Q E hr e0 b r q => F.run A outer s H args us vs Q E (hr.mono h) e0 b r q⟩
inductive What where
  | press (s : Str)
  | rub
  | back
  | again
def What.word : What → Str
  | .press _ => "press"
  | .rub => "rub"
  | .back => "back"
  | .again => "again"
def What.vals : What → List V
  | .press s => [.str "press", .str s]
  | .rub => [.str "rub"]
  | .back => [.str "back"]
  | .again => [.str "again"]
open Classical in
noncomputable def stepT (S : TSt) (h : Nat) : What → Option (V × TSt)
  | .press s => if PgOk (pageR (S.signs ++ [s]) (ordP S h) (deedP S h s)) then some (.non, pressR S h s) else none
  | .rub => match nearR S h (-1) with
    | some m => if PgOk (pageR S.signs S.order (S.deeds ++ [((h, ("" : Str), m, true) : Deed)])) then some (.non, rubR S h m) else none
    | none => none
  | .back => match (stR S.deeds h S.deeds.length).getLast? with
    | some n => if PgOk (pageR S.signs S.order (turnR S n false)) then some (.bl true, (backR S h).2) else none
    | none => some (.bl false, S)
  | .again => match (S.undone.getD h []).getLast? with
    | some n => if PgOk (pageR S.signs S.order (turnR S n true)) then some (.bl true, (againR S h).2) else none
    | none => some (.bl false, S)
def preT (S : TSt) (h : Nat) : What → Prop
  | .press s => MarkOk s ∧ SetPre S (S.signs ++ [s]) (ordP S h) (deedP S h s)
  | .rub => ∃ m, nearR S h (-1) = some m ∧ SetPre S S.signs S.order (S.deeds ++ [((h, ("" : Str), m, true) : Deed)])
  | .back => ∀ n ∈ stR S.deeds h S.deeds.length, SetPre S S.signs S.order (turnR S n false)
  | .again => ∀ n ∈ S.undone.getD h [], SetPre S S.signs S.order (turnR S n true)
section
variable {cs : List (Addr × Addr)} {B C CB tb : Addr} {h : Nat} {a : TA} {S : TSt} {H : Hp} {Q : VK} {E : XK}
theorem run_press {z : Str} (t : Tabs cs H) (d : TabD B H tb a S) (o : TOk S) (hh : h < S.spots.length) (p : preT S h (.press z)) (k : ∀ r, stepT S h (.press z) = some r → Went cs B H tb a r.2 fun H' => Q r.1 H') (kx : stepT S h (.press z) = none → ∀ H', Ex cs H H' → E (.ref C) none H') : spPressT cs B C [.ref tb, .int (h : Nat), .str z] H Q E :=
  ⟨tb, h, z, a, S, rfl, t, d, o, hh, p.1, p.2, fun g => k (.non, pressR S h z) (by unfold stepT; exact if_pos g), fun g => kx (by unfold stepT; exact if_neg g)⟩
theorem run_rub (t : Tabs cs H) (d : TabD B H tb a S) (o : TOk S) (hh : h < S.spots.length) (p : preT S h .rub) (k : ∀ r, stepT S h .rub = some r → Went cs B H tb a r.2 fun H' => Q r.1 H') (kx : stepT S h .rub = none → ∀ H', Ex cs H H' → E (.ref C) none H') : spTRub cs B CB C [.ref tb, .int (h : Nat)] H Q E := by
  obtain ⟨m0, hm0, hs⟩ := p
  refine ⟨tb, h, a, S, rfl, t, d, o, hh, fun m hm => ?_, fun hm => ?_⟩
  · rw [hm0] at hm
    cases hm
    refine ⟨hs, fun g => k (.non, rubR S h m0) ?_, fun g => kx ?_⟩
    · unfold stepT
      rw [hm0]
      exact if_pos g
    · unfold stepT
      rw [hm0]
      exact if_neg g
  · rw [hm0] at hm
    cases hm
theorem run_back (t : Tabs cs H) (d : TabD B H tb a S) (o : TOk S) (hh : h < S.spots.length) (p : preT S h .back) (k : ∀ r, stepT S h .back = some r → Went cs B H tb a r.2 fun H' => Q r.1 H') (kx : stepT S h .back = none → ∀ H', Ex cs H H' → E (.ref C) none H') : spTBack cs B C [.ref tb, .int (h : Nat)] H Q E := by
  refine ⟨tb, h, a, S, rfl, t, d, o, hh, p, fun g => k ((.bl (backR S h).1 : V), (backR S h).2) ?_, fun n hn g => kx ?_⟩
  · unfold stepT backR
    cases e : (stR S.deeds h S.deeds.length).getLast? with
    | none => rfl
    | some n => exact if_pos (g n e)
  · unfold stepT
    rw [hn]
    exact if_neg g
theorem run_again (t : Tabs cs H) (d : TabD B H tb a S) (o : TOk S) (hh : h < S.spots.length) (p : preT S h .again) (k : ∀ r, stepT S h .again = some r → Went cs B H tb a r.2 fun H' => Q r.1 H') (kx : stepT S h .again = none → ∀ H', Ex cs H H' → E (.ref C) none H') : spTAgain cs B C [.ref tb, .int (h : Nat)] H Q E := by
  refine ⟨tb, h, a, S, rfl, t, d, o, hh, p, fun g => k ((.bl (againR S h).1 : V), (againR S h).2) ?_, fun n hn g => kx ?_⟩
  · unfold stepT againR
    cases e : (S.undone.getD h []).getLast? with
    | none => rfl
    | some n => exact if_pos (g n e)
  · unfold stepT
    rw [hn]
    exact if_neg g
end
theorem room1 {k : Nat} {A : Around} (r : Room k A) : A.units + 1 < cLine := by have := r.un; omega
/-! ### _law_done -/
/-- made since then: lambdas, and what else is new -/
structure Lm (p : Addr) (H H1 : Hp) : Prop where
  keep : ∀ b o, H b = some o → b ≠ p → H1 b = some o
  old : ∀ b, H1 b = none → H b = none
theorem Lm.tr {p : Addr} {H H1 H2 : Hp} (a : Lm p H H1) (b : Lm p H1 H2) : Lm p H H2 := ⟨fun c o h n => b.keep c o (a.keep c o h n) n, fun c h => a.old c (b.old c h)⟩
theorem Lm.of {p : Addr} {H H1 : Hp} (x : Same H H1) : Lm p H H1 := ⟨fun c o h _ => x c o h, fun c h => same_old x h⟩
section
variable {cs : List (Addr × Addr)} {p : Addr} {q : Str} {H H1 H' : Hp} {A : Addr → Prop}
theorem tab_ne (t : LamX.TabS H p q) {c : Addr} {o : HO} (h : H c = some o) (n : ∀ ps, o ≠ .tbl ps) : c ≠ p := fun e => by
  obtain ⟨ps, h1, _⟩ := t
  rw [e, h1] at h
  cases h
  exact n _ rfl
theorem Lm.ext (l : Lm p H H1) (t : LamX.TabS H p q) : LamX.ExtN H H1 := fun c o h n => l.keep c o h (tab_ne t h n)
theorem Lm.tabs (l : Lm p H H1) (ne : ∀ r ∈ cs, r.2 ≠ p) (T : Tabs cs H) : Tabs cs H1 := fun r hr => by
  obtain ⟨ps, h1, h2⟩ := T r hr
  exact ⟨ps, l.keep _ _ h1 (ne r hr), h2⟩
theorem Lm.kn (l : Lm p H H1) (t : LamX.TabS H p q) (k : KN cs A H1 H') : KN ((p, p) :: cs) A H H' := fun c o h n m => by
  refine k c o (l.keep c o h ?_) (n.imp id fun z r hr => z r (List.mem_cons_of_mem _ hr)) m
  rcases n with n | n
  · exact tab_ne t h n
  · exact fun e => n (p, p) List.mem_cons_self e.symm
theorem tabS_kn (x : KN cs A H H') (m : Mob H A) (ne : ∀ r ∈ cs, r.2 ≠ p) (t : LamX.TabS H p q) : LamX.TabS H' p q := by
  have na : ∀ {c : Addr} {o : HO}, H c = some o → (∀ us, o ≠ .lst us) → (∀ C dx fs, o ≠ .ins C dx fs) → ¬ A c := fun h n1 n2 z => by
    rcases m _ z with ⟨us, e⟩ | ⟨C, dx, fs, e⟩ <;> rw [e] at h <;> cases h
    · exact n1 _ rfl
    · exact n2 _ _ _ rfl
  obtain ⟨ps, h1, h2, h3⟩ := t
  refine ⟨ps, x _ _ h1 (.inr ne) (na h1 (fun us z => by cases z) fun C dx fs z => by cases z), h2, fun pos cv hc => ?_⟩
  obtain ⟨c, e1, e2⟩ := h3 pos cv hc
  exact ⟨c, e1, x _ _ e2 (.inl fun ps => LamX.codeO_ne ps) (na e2 (fun us z => by unfold LamX.CodeO at z; cases z) fun C dx fs z => by unfold LamX.CodeO at z; cases z)⟩
end
theorem del_add {H : Hp} {cl : List (Addr × Obj)} (un : ∀ c o, cl.lookup c = some o → H c = none) : delC (addC H cl) cl = H := by
  funext b
  cases r : cl.lookup b with
  | some u => rw [delC_in r, un b u r]
  | none => rw [delC_out r, addC_out r]
theorem HfL.add {f : Addr} {F : NF} {e : Expr} {H : Hp} {cl : List (Addr × Obj)} (un : ∀ c o, cl.lookup c = some o → H c = none) (h : HfL f F e H) : HfL f F e (addC H cl) := ⟨add_at un h.1, add_at un h.2⟩
theorem HfD.add {f t : Addr} {F : NF} {e : Expr} {v : V} {H : Hp} {cl : List (Addr × Obj)} (un : ∀ c o, cl.lookup c = some o → H c = none) (h : HfD f F e t v H) : HfD f F e t v (addC H cl) := ⟨add_at un h.1, add_at un h.2.1, add_at un h.2.2⟩
/-- what is told of a work that is tried -/
def TriedQ (cs : List (Addr × Addr)) (B : Addr) (tb : Addr) (a : TA) (r : Option (V × TSt)) (cl : List (Addr × Obj)) (K1 : Hp) (Q : VK) : Prop :=
  (∀ v, r = some v → ∀ (a' : TA) (H' : Hp), KN cs (ownT tb a) K1 H' → (∀ c, ownT tb a' c → ownT tb a c ∨ K1 c = none) → Tabs cs H' → (∀ c, H' c = none → K1 c = none) → TabD B H' tb a' v.2 → (∀ c o, cl.lookup c = some o → H' c = none) → Q v.1 (addC H' cl)) ∧
  (r = none → ∀ H', Ex cs K1 H' → (∀ c o, cl.lookup c = some o → H' c = none) → Q (.str "refused") (addC H' cl))
theorem could2 {P : Program} {w : World} {K : PySem.W.Frag} {mg : Str → Option Value} {base : Heap} {cs : List (Addr × Addr)} {B C G : Addr} {cells : List (Str × Addr)} {N N' ps : List Str} {σ : L2.St} {cl : List (Addr × Obj)} {H : Hp} {f c' tb : Addr} {h : Nat} {a : TA} {S : TSt} {lc : List (Str × Addr)} {lam : LamT} {msp : Sp} {Hf : Hp → Prop} {r : Option (V × TSt)} {Q : VK} {E : XK} {qn : Str} (sc : NScope N' ps cap2 lam.2.2) (hps : ∀ y, (y, NameKind.free) ∈ lam.2.2.names → y ∈ cap2)
    (T : ToldC cells N cap2 σ cl) (un : ∀ c o, cl.lookup c = some o → H c = none) (hF : lc = cloFrom cells lam.2.2.names []) (hN : N[0]? = some ("_law_table" : Str)) (hN1 : N[1]? = some ("_law_hand" : Str)) (hσ : σ[0]? = some (some (.ref tb))) (hσ1 : σ[1]? = some (some (.int (h : Nat))))
    (hf : Hf (addC H cl)) (L : LamW P w K mg base 14 f Hf (spLam2 (B := B) msp ⟨"<lambda>", qn, lam.1, [], lam.2.2, lc, c'⟩)) (hD : TabD B H tb a S) (up : PySem.W.exmOne K (.ref C) (.ref G) = some true)
    (run : ∀ (Z : VK) (E' : XK), (∀ v, r = some v → Went cs B H tb a v.2 fun H' => Z v.1 H') → (r = none → ∀ H', Ex cs H H' → E' (.ref C) none H') → msp [.ref tb, .int (h : Nat)] H Z E')
    (k : TriedQ cs B tb a r cl H Q) : spCould P w K mg base G 14 [.ref f] (addC H cl) Q E := by
  refine ⟨f, Hf, _, rfl, hf, L, fun Z E2 hZ hE => ?_⟩
  refine ⟨rfl, tb, h, cl, a.dx, a.fs, caught_of T hF hps (fun y hy => PySem.mem_of_lookup (sc.frk y hy)) (fun y hy => hy) rfl (fun c o q => addC_in q) (fun i y v q1 q2 => ?_), by rw [del_add un]; exact hD.ob, rfl, rfl, rfl, ?_⟩
  · match i, q1, q2 with
    | 0, q1, q2 =>
      cases q1
      cases q2
      exact ⟨0, hN, hσ⟩
    | 1, q1, q2 =>
      cases q1
      cases q2
      exact ⟨1, hN1, hσ1⟩
    | i + 2, q1, _ => simp at q1
  rw [del_add un]
  exact run _ _ (fun v e a' H' x1 x2 x3 x4 x5 hu => hZ _ _ (k.1 v e a' H' x1 x2 x3 x4 x5 hu)) fun e H' x hu => hE _ _ up (k.2 e H' x hu)
theorem could3 {P : Program} {w : World} {K : PySem.W.Frag} {mg : Str → Option Value} {base : Heap} {cs : List (Addr × Addr)} {B C G : Addr} {cells : List (Str × Addr)} {N : List Str} {σ : L2.St} {cl : List (Addr × Obj)} {H : Hp} {f c' tb wt : Addr} {h : Nat} {z : Str} {a : TA} {S : TSt} {lc : List (Str × Addr)} {lam : LamT} {msp : Sp} {Hf : Hp → Prop} {r : Option (V × TSt)} {Q : VK} {E : XK} {qn : Str} (sc : NScope cap3 [] cap3 lam.2.2)
    (T : ToldC cells N cap3 σ cl) (un : ∀ c o, cl.lookup c = some o → H c = none) (hF : lc = cloFrom cells lam.2.2.names []) (hN : N[0]? = some ("_law_table" : Str)) (hN1 : N[1]? = some ("_law_hand" : Str)) (hN2 : N[2]? = some ("_law_what" : Str)) (hσ : σ[0]? = some (some (.ref tb))) (hσ1 : σ[1]? = some (some (.int (h : Nat)))) (hσ2 : σ[2]? = some (some (.ref wt)))
    (hf : Hf (addC H cl)) (L : LamW P w K mg base 14 f Hf (spLam3 (B := B) msp ⟨"<lambda>", qn, lam.1, [], lam.2.2, lc, c'⟩)) (hD : TabD B H tb a S) (hw : H wt = some (.tup [.str "press", .str z])) (up : PySem.W.exmOne K (.ref C) (.ref G) = some true)
    (run : ∀ (Z : VK) (E' : XK), (∀ v, r = some v → Went cs B H tb a v.2 fun H' => Z v.1 H') → (r = none → ∀ H', Ex cs H H' → E' (.ref C) none H') → msp [.ref tb, .int (h : Nat), .str z] H Z E')
    (k : TriedQ cs B tb a r cl H Q) : spCould P w K mg base G 14 [.ref f] (addC H cl) Q E := by
  refine ⟨f, Hf, _, rfl, hf, L, fun Z E2 hZ hE => ?_⟩
  refine ⟨rfl, tb, h, wt, z, cl, a.dx, a.fs, caught_of T hF (fun y hy => sc.free (y, .free) hy rfl) (fun y hy => PySem.mem_of_lookup (sc.frk y hy)) (fun y hy => hy) rfl (fun c o q => addC_in q) (fun i y v q1 q2 => ?_), by rw [del_add un]; exact hD.ob, rfl, by rw [del_add un]; exact hw, ?_⟩
  · match i, q1, q2 with
    | 0, q1, q2 =>
      cases q1
      cases q2
      exact ⟨0, hN, hσ⟩
    | 1, q1, q2 =>
      cases q1
      cases q2
      exact ⟨1, hN1, hσ1⟩
    | 2, q1, q2 =>
      cases q1
      cases q2
      exact ⟨2, hN2, hσ2⟩
    | i + 3, q1, _ => simp at q1
  rw [del_add un]
  exact run _ _ (fun v e a' H' x1 x2 x3 x4 x5 hu => hZ _ _ (k.1 v e a' H' x1 x2 x3 x4 x5 hu)) fun e H' x hu => hE _ _ up (k.2 e H' x hu)
section
variable {P : Program} {w : World} {K : PySem.W.Frag} {mg : Str → Option Value} {base : Heap} {cs : List (Addr × Addr)} {B C CB G p : Addr}
abbrev ApartT (cs : List (Addr × Addr)) (p : Addr) : Prop := ∀ q ∈ cs, q.2 ≠ p
def spDone (cs : List (Addr × Addr)) (B p : Addr) : Sp := fun vs H Q _ => ∃ (tb wt : Addr) (h : Nat) (a : TA) (S : TSt) (wh : What), vs = [.ref tb, .int (h : Nat), .ref wt] ∧ Tabs cs H ∧ LamX.TabS H p qD ∧ TabD B H tb a S ∧ TOk S ∧ h < S.spots.length ∧ H wt = some (.tup wh.vals) ∧ preT S h wh ∧
  (∀ r, stepT S h wh = some r → ∀ (a' : TA) (H' : Hp), KN ((p, p) :: cs) (ownT tb a) H H' → (∀ c, ownT tb a' c → ownT tb a c ∨ H c = none) → Tabs cs H' → LamX.TabS H' p qD → (∀ c, H' c = none → H c = none) → TabD B H' tb a' r.2 → Q r.1 H') ∧
  (stepT S h wh = none → ∀ H', KN ((p, p) :: cs) (fun _ => False) H H' → Tabs cs H' → LamX.TabS H' p qD → (∀ c, H' c = none → H c = none) → Q (.str "refused") H')
abbrev nmDone : List Str := ["_law_table", "_law_hand", "_law_what", "_law_works"]
theorem sc_done : FnScope nmDone ["_law_table", "_law_hand", "_law_what"] (defScope s_done) := ⟨rfl, rfl, rfl, by decide +kernel, rfl, by decide +kernel, by decide +kernel⟩
theorem key_p : ∀ y ∈ lamP.2.2.names, y.2 = .free → (defScope s_done).names.lookup y.1 = some .cell := by decide +kernel
theorem key_u : ∀ y ∈ lamU.2.2.names, y.2 = .free → (defScope s_done).names.lookup y.1 = some .cell := by decide +kernel
theorem key_k : ∀ y ∈ lamK.2.2.names, y.2 = .free → (defScope s_done).names.lookup y.1 = some .cell := by decide +kernel
theorem key_g : ∀ y ∈ lamG.2.2.names, y.2 = .free → (defScope s_done).names.lookup y.1 = some .cell := by decide +kernel
theorem key_c3 : ∀ y ∈ cap3, (defScope s_done).names.lookup y = some .cell := by decide +kernel
theorem key_c2 : ∀ y ∈ cap2, (defScope s_done).names.lookup y = some .cell := by decide +kernel
theorem ok_done {f c g gw gu gb gg : Addr} {fd fdc fdw fdu fdb fdg : FuncData} (T : Txt mg) (X : TabC K B) (ne : ApartT cs p) (F : Fun K "_law_done" "_law_done" s_done f fd) (hcode : fd.code = .ref c) (TB : LamX.TabB base mg c p) (up : PySem.W.exmOne K (.ref C) (.ref G) = some true)
    (Gc : FnOk P w K mg base CX0 15 g fdc ["_law_work"] (spCould P w K mg base G 14)) (kc : PySem.W.keepIn K (.ref g) = true) (bc : Binds K fdc ["_law_work"] []) (mc : mg "_law_could" = some (.ref g))
    (Mw : Meth K B "press" gw) (Gw : FnOk P w K mg base (L2.CX P w) 12 gw fdw ["self", "hand", "sign"] (spPressT cs B C)) (bw : Binds K fdw ["self", "hand", "sign"] [])
    (Mu : Meth K B "rub" gu) (Gu : FnOk P w K mg base (L2.CX P w) 12 gu fdu ["self", "hand"] (spTRub cs B CB C)) (bu : Binds K fdu ["self", "hand"] [])
    (Mb : Meth K B "back" gb) (Gb : FnOk P w K mg base (L2.CX P w) 13 gb fdb ["self", "hand"] (spTBack cs B C)) (bb : Binds K fdb ["self", "hand"] [])
    (Mg : Meth K B "again" gg) (Gg : FnOk P w K mg base (L2.CX P w) 13 gg fdg ["self", "hand"] (spTAgain cs B C)) (bg : Binds K fdg ["self", "hand"] []) :
    FnOk P w K mg base CX0 16 f fd ["_law_table", "_law_hand", "_law_what"] (spDone cs B p) := by
  refine fun_okT F hcode sc_done (fun vs H Q E h => ?_) (fun A outer s H vs Q E hr h => ?_)
  · obtain ⟨tb, wt, h, a, S, wh, rfl, _⟩ := h
    rfl
  · obtain ⟨tb, wt, h, a, S, wh, rfl, hT, hL, hD, hO, hh, hw, hp, k, kx⟩ := h
    have nd := sc_done.nd
    have hu := hr.units
    have hu1 := hu
    refine ⟨_, pss_cons (ps_if (pt_cmpR op_eq (pe_ix ix_tup (pv 2) pe_int (fun _ _ => rfl)) pe_str (nomark _)) (pss_one (ps_ret (pe_callC (names := cap3) Gc hr (by rfl) mc kc bc (fun _ _ => rfl) key_c3 (pa_cons (pe_lamC TB rfl rfl fun y hy e => .inl (key_p y hy e)) pa_nil)))) pss_nil)
      (pss_cons (ps_set (i := 3) nd rfl (.inl rfl) (pe_disp (pps_cons pe_str (pe_lamC TB rfl rfl fun y hy e => .inl (key_u y hy e)) (pps_cons pe_str (pe_lamD (v := .int 0) TB rfl rfl rfl rfl pe_int (fun y hy e => .inl (key_k y hy e)) ⟨("_law_hand", .free), by decide +kernel, rfl⟩) pps_nil)) rfl rfl (by simp) (by decide)))
      (pss_cons (ps_asg (pe_lamD (v := .int 0) TB rfl rfl rfl rfl pe_int (fun y hy e => .inl (key_g y hy e)) ⟨("_law_hand", .free), by decide +kernel, rfl⟩) (pg_sub (pv 3) pe_str (set_dict (room1 hr))))
      (pss_one (ps_ret (pe_callC (names := cap2) Gc hr (by rfl) mc kc bc (fun _ _ => rfl) key_c2 (pa_cons (pe_dget (room1 hr) (pv 3) (pe_ix ix_tup (pv 2) pe_int (fun _ _ => rfl)) (fun _ _ => rfl)) pa_nil)))))), ?_⟩
    have fin : ∀ {H1 : Hp} {cl : List (Addr × Obj)} {Z : VK}, Lm p H H1 → LamX.TabS H1 p qD → Tabs cs H1 → TabD B H1 tb a S → (∀ c o, cl.lookup c = some o → H1 c = none) → (∀ v H', Q v H' → Z v H') → TriedQ cs B tb a (stepT S h wh) cl H1 (fun v H' => (∀ c o, cl.lookup c = some o → H' c = some (cellF o)) → Z v (delC H' cl)) := fun {H1 cl Z} lm t1 T1 D1 un hZ => by
      refine ⟨fun v e a' H' kn ow t od td hu _ => ?_, fun e H' x hu _ => ?_⟩
      · rw [del_add hu]
        exact hZ _ _ (k v e a' H' (lm.kn hL kn) (fun c hc => (ow c hc).imp id fun z => lm.old c z) t (tabS_kn kn D1.mob ne t1) (fun c z => lm.old c (od c z)) td)
      · rw [del_add hu]
        have kn : KN cs (fun _ => False) H1 H' := fun c u h n _ => x.any h n
        exact hZ _ _ (kx e H' (lm.kn hL kn) x.tab (tabS_kn kn (fun c z => z.elim) ne t1) fun c z => lm.old c (x.old c z))
    by_cases hpr : ∃ z, wh = .press z
    · obtain ⟨z, rfl⟩ := hpr
      have hw : H wt = some (.tup [.str "press", .str z]) := hw
      refine ⟨_, rfl, wt, _, 0, .str "press", rfl, rfl, SqT.of hw, atI_nat (j := 0) rfl, rfl, true, rfl, iteT ?_⟩
      refine ⟨hL, fun f1 cc H1 e1 e2 t1 nf hf hc cl Tc un => ?_⟩
      have lm : Lm p H H1 := ⟨e1, e2⟩
      have D1 := hD.gw (lm.ext hL)
      have T1 := lm.tabs ne hT
      have hf' : HfL f1 _ _ H1 := ⟨hf, hc⟩
      exact could3 sc_lp Tc un rfl rfl rfl rfl rfl rfl rfl (hf'.add un) (lok_p X Mw (fn_up Gw (by decide)) bw) D1 (lm.ext hL _ _ hw fun ps z => nomatch z) up (fun Z E' h1 h2 => run_press T1 D1 hO hh hp h1 h2) (fin lm t1 T1 D1 un fun v H' q => q)
    have hv0 : wh.vals[0]? = some (.str wh.word) := by cases wh <;> rfl
    have hne : wh.word ≠ "press" := by
      cases wh with
      | press z => exact absurd ⟨z, rfl⟩ hpr
      | rub => decide
      | back => decide
      | again => decide
    refine ⟨_, rfl, wt, _, 0, .str wh.word, rfl, rfl, SqT.of hw, atI_nat (j := 0) hv0, rfl, _, rfl, ?_⟩
    have ew : decide (V.str wh.word = V.str "press") = false := decide_eq_false fun e => hne (by injection e)
    rw [ew]
    refine iteF ?_
    -- the works
    refine fun d nd0 => ?_
    have s0 := same_new (o := .dK []) nd0
    have hd0 : upd H d (.dK []) d = some (.dK []) := upd_same
    generalize upd H d (.dK []) = Hd at s0 hd0 ⊢
    have hLd : LamX.TabS Hd p qD := tabS_kn (KN.same (cs := cs) s0) (A := fun _ => False) (fun c z => z.elim) ne hL
    have dp : d ≠ p := fun e => by
      obtain ⟨ps, h1, _⟩ := hL
      rw [e, h1] at nd0
      cases nd0
    refine ⟨hLd, fun f1 c1 H1 e1 e2 t1 nf1 hf1 hc1 => ⟨t1, fun f2 c2 t2a H2 e3 e4 t2 nf2 hD2 => ?_⟩⟩
    have hd1 := e1 _ _ hd0 dp
    have hd2 := e3 _ _ hd1 dp
    have fd1 : f1 ≠ d := fun e => by rw [e, hd0] at nf1; cases nf1
    have fd2 : f2 ≠ d := fun e => by rw [e, hd1] at nf2; cases nf2
    have q1 : HfL f1 ⟨"<lambda>", _, lamU.1, [], lamU.2.2, _, c1⟩ lamU.2.1 H2 := ⟨e3 _ _ hf1 (tab_ne t1 hf1 fun ps => fnL_ne ps), e3 _ _ hc1 (tab_ne t1 hc1 fun ps => LamX.codeO_ne ps)⟩
    refine ⟨hd2, [(.inr "rub", .ref f1), (.inr "back", .ref f2)], rfl, by show 2 ≤ 15; decide, ?_⟩
    have cd : ∀ {c : Addr} {qn : Str}, H2 c = some (LamX.CodeO c qn) → c ≠ d := fun h e => by rw [e, hd2] at h; unfold LamX.CodeO at h; cases h
    have u3 : ∀ {c : Addr} {o : HO}, H2 c = some o → c ≠ d → upd H2 d (.dK (mergeK [] [(.inr "rub", .ref f1), (.inr "back", .ref f2)])) c = some o := fun h n => by rw [upd_ne n]; exact h
    have q1 : HfL f1 _ _ (upd H2 d (.dK (mergeK [] [(.inr "rub", .ref f1), (.inr "back", .ref f2)]))) := ⟨u3 q1.1 fd1, u3 q1.2 (cd q1.2)⟩
    have q2 : HfD f2 _ _ t2a (.int 0) (upd H2 d (.dK (mergeK [] [(.inr "rub", .ref f1), (.inr "back", .ref f2)]))) := ⟨u3 hD2.1 fd2, u3 hD2.2.1 (cd hD2.2.1), u3 hD2.2.2 fun e => by have := hD2.2.2; rw [e, hd2] at this; cases this⟩
    have lm3 : Lm p H (upd H2 d (.dK (mergeK [] [(.inr "rub", .ref f1), (.inr "back", .ref f2)]))) := ⟨fun b o h n => u3 (e3 _ _ (e1 _ _ (s0 _ _ h) n) n) (fun e => by rw [e, nd0] at h; cases h), fun b h => same_old s0 (e2 _ (e4 _ (by
      by_cases e : b = d
      · rw [e, upd_same] at h; cases h
      · rw [upd_ne e] at h; exact h)))⟩
    have t3 : LamX.TabS (upd H2 d (.dK (mergeK [] [(.inr "rub", .ref f1), (.inr "back", .ref f2)]))) p qD := by
      obtain ⟨ps, h1, h2, h3⟩ := t2
      refine ⟨ps, u3 h1 fun e => dp e.symm, h2, fun pos cv hc => ?_⟩
      obtain ⟨c, a1, a2⟩ := h3 pos cv hc
      exact ⟨c, a1, u3 a2 (cd a2)⟩
    have hd3 : upd H2 d (.dK (mergeK [] [(.inr "rub", .ref f1), (.inr "back", .ref f2)])) d = some (.dK [(.inr "rub", .ref f1), (.inr "back", .ref f2)]) := upd_same
    generalize upd H2 d (.dK (mergeK [] [(.inr "rub", .ref f1), (.inr "back", .ref f2)])) = H3 at q1 q2 lm3 t3 hd3 ⊢
    clear u3 cd hd1 hd2 hd0 e1 e2 e3 e4 t1 t2 hD2 hf1 hc1 nf1 nf2 hLd s0
    refine ⟨t3, fun f3 c3 t3a H4 e5 e6 t4 nf3 hD3 => ?_⟩
    have hd4 := e5 _ _ hd3 dp
    have fd3 : f3 ≠ d := fun e => by rw [e, hd3] at nf3; cases nf3
    have q1 : HfL f1 _ _ H4 := ⟨e5 _ _ q1.1 (tab_ne t3 q1.1 fun ps => fnL_ne ps), e5 _ _ q1.2 (tab_ne t3 q1.2 fun ps => LamX.codeO_ne ps)⟩
    have q2 : HfD f2 _ _ t2a (.int 0) H4 := ⟨e5 _ _ q2.1 (tab_ne t3 q2.1 fun ps => fnD_ne ps), e5 _ _ q2.2.1 (tab_ne t3 q2.2.1 fun ps => LamX.codeO_ne ps), e5 _ _ q2.2.2 (tab_ne t3 q2.2.2 fun ps z => nomatch z)⟩
    refine ⟨_, rfl, d, _, rfl, .inl ⟨_, .inr "again", hd4, rfl, by show 2 < sizeLine; decide, rfl⟩, ?_⟩
    have cd : ∀ {c : Addr} {qn : Str}, H4 c = some (LamX.CodeO c qn) → c ≠ d := fun h e => by rw [e, hd4] at h; unfold LamX.CodeO at h; cases h
    have u5 : ∀ {c : Addr} {o : HO}, H4 c = some o → c ≠ d → upd H4 d (.dK (putK [(.inr "rub", .ref f1), (.inr "back", .ref f2)] (.inr "again") (.ref f3))) c = some o := fun h n => by rw [upd_ne n]; exact h
    have td : ∀ {c : Addr} {xs : List V}, H4 c = some (.tup xs) → c ≠ d := fun h e => by rw [e, hd4] at h; cases h
    have q1 : HfL f1 _ _ (upd H4 d (.dK (putK [(.inr "rub", .ref f1), (.inr "back", .ref f2)] (.inr "again") (.ref f3)))) := ⟨u5 q1.1 fd1, u5 q1.2 (cd q1.2)⟩
    have q2 : HfD f2 _ _ t2a (.int 0) (upd H4 d (.dK (putK [(.inr "rub", .ref f1), (.inr "back", .ref f2)] (.inr "again") (.ref f3)))) := ⟨u5 q2.1 fd2, u5 q2.2.1 (cd q2.2.1), u5 q2.2.2 (td q2.2.2)⟩
    have q3 : HfD f3 _ _ t3a (.int 0) (upd H4 d (.dK (putK [(.inr "rub", .ref f1), (.inr "back", .ref f2)] (.inr "again") (.ref f3)))) := ⟨u5 hD3.1 fd3, u5 hD3.2.1 (cd hD3.2.1), u5 hD3.2.2 (td hD3.2.2)⟩
    have lm5 : Lm p H (upd H4 d (.dK (putK [(.inr "rub", .ref f1), (.inr "back", .ref f2)] (.inr "again") (.ref f3)))) := ⟨fun b o h n => u5 (e5 _ _ (lm3.keep _ _ h n) n) (fun e => by rw [e, nd0] at h; cases h), fun b h => lm3.old _ (e6 _ (by
      by_cases e : b = d
      · rw [e, upd_same] at h; cases h
      · rw [upd_ne e] at h; exact h))⟩
    have t5 : LamX.TabS (upd H4 d (.dK (putK [(.inr "rub", .ref f1), (.inr "back", .ref f2)] (.inr "again") (.ref f3)))) p qD := by
      obtain ⟨ps, h1, h2, h3⟩ := t4
      refine ⟨ps, u5 h1 fun e => dp e.symm, h2, fun pos cv hc => ?_⟩
      obtain ⟨c, a1, a2⟩ := h3 pos cv hc
      exact ⟨c, a1, u5 a2 (cd a2)⟩
    have hd5 : upd H4 d (.dK (putK [(.inr "rub", .ref f1), (.inr "back", .ref f2)] (.inr "again") (.ref f3))) d = some (.dK [(.inr "rub", .ref f1), (.inr "back", .ref f2), (.inr "again", .ref f3)]) := upd_same
    show tDGet (tVar 3) _ _ (upd H4 d (.dK (putK [(.inr "rub", .ref f1), (.inr "back", .ref f2)] (.inr "again") (.ref f3)))) _
    generalize upd H4 d (.dK (putK [(.inr "rub", .ref f1), (.inr "back", .ref f2)] (.inr "again") (.ref f3))) = H5 at q1 q2 q3 lm5 t5 hd5 ⊢
    clear u5 cd td hd4 hd3 e5 e6 t3 t4 hD3 nf3 lm3
    have D5 := hD.gw (lm5.ext hL)
    have T5 := lm5.tabs ne hT
    have hw5 := lm5.ext hL _ _ hw fun ps z => nomatch z
    cases wh with
    | press z => exact absurd ⟨z, rfl⟩ hpr
    | rub =>
      refine ⟨_, rfl, _, rfl, wt, _, 0, .str "rub", rfl, rfl, SqT.of hw5, atI_nat (j := 0) rfl, d, .ref f1, rfl, .inl ⟨_, .inr "rub", .inl hd5, rfl, rfl⟩, fun cl Tc un => ?_⟩
      exact could2 sc_lu (fun y hy => sc_lu.free (y, .free) hy rfl) Tc un rfl rfl rfl rfl rfl (q1.add un) (lok_u X Mu (fn_up Gu (by decide)) bu) D5 up (fun Z E' h1 h2 => run_rub T5 D5 hO hh hp h1 h2) (fin lm5 t5 T5 D5 un fun v H' q => q)
    | back =>
      refine ⟨_, rfl, _, rfl, wt, _, 0, .str "back", rfl, rfl, SqT.of hw5, atI_nat (j := 0) rfl, d, .ref f2, rfl, .inl ⟨_, .inr "back", .inl hd5, rfl, rfl⟩, fun cl Tc un => ?_⟩
      exact could2 sc_lk (fun y hy => sc_lk.free (y, .free) hy rfl) Tc un rfl rfl rfl rfl rfl (q2.add un) (lok_k X Mb Gb bb) D5 up (fun Z E' h1 h2 => run_back T5 D5 hO hh hp h1 h2) (fin lm5 t5 T5 D5 un fun v H' q => q)
    | again =>
      refine ⟨_, rfl, _, rfl, wt, _, 0, .str "again", rfl, rfl, SqT.of hw5, atI_nat (j := 0) rfl, d, .ref f3, rfl, .inl ⟨_, .inr "again", .inl hd5, rfl, rfl⟩, fun cl Tc un => ?_⟩
      exact could2 sc_lg (fun y hy => sc_lg.free (y, .free) hy rfl) Tc un rfl rfl rfl rfl rfl (q3.add un) (lok_g X Mg Gg bg) D5 up (fun Z E' h1 h2 => run_again T5 D5 hO hh hp h1 h2) (fin lm5 t5 T5 D5 un fun v H' q => q)
end
end TG

namespace TG
open PySem PySem.Spec PyProof.Rows L2 NdefX GenW Gx Lv
/-! ### texts of signs -/
theorem str_of {a b : Str} (h : cl a = cl b) : a = b := by
  obtain ⟨⟨a⟩⟩ := a
  obtain ⟨⟨b⟩⟩ := b
  have : a = b := h
  rw [this]
theorem filt_all {p : Nat → Bool} : ∀ {l : List Nat}, (∀ x ∈ l, p x = true) → l.filter p = l
  | [], _ => rfl
  | a :: l, h => by rw [List.filter_cons, if_pos (h a (by simp)), filt_all fun x hx => h x (by simp [hx])]
theorem sgS_len (z : Str) : (sgS z).length = z.length := by unfold sgS; rw [List.length_map, Array.length_toList]; rfl
theorem cl_textR (signs : List Str) (marks : List Nat) : cl (textR signs marks) = (marks.map fun m => cl (signs.getD m "")).flatten := by
  unfold textR
  rw [cl_joinL]
  have e0 : cl ("" : Str) = [] := by decide +kernel
  rw [e0, List.map_map]
  have : ∀ l : List (List Nat), TL.joinL [] l = l.flatten := by
    intro l
    induction l with
    | nil => rfl
    | cons y ys ih =>
      cases ys with
      | nil => simp [TL.joinL]
      | cons x xs =>
        show y ++ ([] ++ TL.joinL [] (x :: xs)) = _
        rw [List.nil_append, ih]
        rfl
  rw [this]
  rfl
theorem sg_getD {z : Str} {m : Nat} : cl ((sgS z ++ [("" : Str)]).getD m "") = (cl z)[m]?.toList := by
  have e0 : cl ("" : Str) = [] := by decide +kernel
  have ez : (cl z).length = z.length := (len_cl z).symm
  rw [List.getD_eq_getElem?_getD]
  by_cases h : m < z.length
  · rw [List.getElem?_append_left (by rw [sgS_len]; exact h)]
    unfold sgS
    rw [List.getElem?_map]
    have e : z.cps.toList[m]? = (cl z)[m]? := rfl
    rw [e, List.getElem?_eq_getElem (by omega)]
    rfl
  · have e : (cl z)[m]? = none := List.getElem?_eq_none (by omega)
    rw [e]
    rw [List.getElem?_append_right (by rw [sgS_len]; omega), sgS_len]
    cases q : ([("" : Str)] : List Str)[m - z.length]? with
    | none => exact e0
    | some x =>
      have := List.mem_of_getElem? q
      rw [List.mem_singleton] at this
      rw [this]
      exact e0
theorem flat_range (l : List Nat) : ∀ (n s : Nat), ((List.range' s n).map fun m => l[m]?.toList).flatten = (l.drop s).take n
  | 0, s => by simp
  | n + 1, s => by
    rw [List.range'_succ, List.map_cons, List.flatten_cons, flat_range l n (s + 1)]
    by_cases h : s < l.length
    · rw [List.getElem?_eq_getElem h, List.drop_eq_getElem_cons h]
      rfl
    · rw [List.getElem?_eq_none (by omega), List.drop_eq_nil_of_le (by omega), List.drop_eq_nil_of_le (by omega)]
      simp
theorem drop_idx {s : Nat} : ∀ {l : List Nat}, s ∈ l → ∃ r, l.drop (l.idxOf s) = s :: r
  | a :: l, h => by
    by_cases c : a = s
    · subst c
      exact ⟨l, by simp [List.idxOf_cons]⟩
    · have hm : s ∈ l := by
        rcases List.mem_cons.mp h with e | e
        · exact absurd e.symm c
        · exact e
      obtain ⟨r, hr⟩ := drop_idx hm
      refine ⟨r, ?_⟩
      rw [List.idxOf_cons]
      have : (a == s) = false := by simp [c]
      rw [this]
      exact hr
theorem firstR_self {order : List Nat} {there : List Bool} {s : Nat} (h : s ∈ order) (t : there.getD s false = true) : firstR order there s = s ∧ ∃ m ∈ order.drop (order.idxOf s), there.getD m false = true := by
  obtain ⟨r, hr⟩ := drop_idx h
  unfold firstR
  rw [hr, List.find?_cons, t]
  exact ⟨rfl, s, by simp, t⟩
theorem cl_oneG (c : Nat) : cl (⟨#[c]⟩ : Str) = [c] := rfl
theorem MarkOk.sg {x : Str} (h : MarkOk x) : ∀ c ∈ cl x, SgOk c ∨ c = 9 ∨ c = 10 := by
  intro c hc
  rcases h with h | h | ⟨d, h, hd⟩
  · rw [h, cl_tabS, List.mem_singleton] at hc
    exact .inr (.inl hc)
  · rw [h, cl_lineS, List.mem_singleton] at hc
    exact .inr (.inr hc)
  · rw [h, cl_oneG, List.mem_singleton] at hc
    rw [hc]
    exact .inl hd
/-! ### which marks are there -/
def killD (d : Deed) : Bool := decide (d.2.2.2 = decide (d.2.1 = ""))
def pr (D : List Deed) (m : Nat) : Bool := D.all fun d => !(killD d && decide (d.2.2.1 = m))
theorem set_get {th : List Bool} {i m : Nat} : (th.set i false).getD m false = (th.getD m false && !decide (i = m)) := by
  rw [List.getD_eq_getElem?_getD, List.getD_eq_getElem?_getD]
  by_cases h : i = m
  · subst h
    rw [decide_eq_true rfl, Bool.not_true, Bool.and_false]
    by_cases c : i < th.length
    · rw [List.getElem?_set_self c]
      rfl
    · rw [List.getElem?_eq_none (by rw [List.length_set]; omega)]
      rfl
  · rw [List.getElem?_set_ne h, decide_eq_false h, Bool.not_false, Bool.and_true]
theorem there_fold : ∀ (D : List Deed) (th : List Bool) (m : Nat), (D.foldl markR th).getD m false = (th.getD m false && pr D m)
  | [], th, m => by simp [pr]
  | d :: D, th, m => by
    rw [List.foldl_cons, there_fold D]
    unfold markR pr
    rw [List.all_cons]
    unfold killD
    by_cases c : d.2.2.2 = decide (d.2.1 = "")
    · rw [if_pos c, decide_eq_true c, set_get, Bool.true_and, Bool.and_assoc]
    · rw [if_neg c, decide_eq_false c, Bool.false_and, Bool.not_false, Bool.true_and]
theorem there_pr {many m : Nat} {D : List Deed} (h : m < many) : (thereR many D).getD m false = pr D m := by
  unfold thereR
  rw [there_fold, List.getD_eq_getElem?_getD, List.getElem?_replicate, if_pos h]
  simp
theorem those_pr {many : Nat} {D : List Deed} {order : List Nat} (h : ∀ m ∈ order, m < many) : thoseR order (thereR many D) = order.filter (pr D) := by
  unfold thoseR
  exact List.filter_congr fun m hm => there_pr (h m hm)
theorem pr_out {D : List Deed} {m : Nat} (h : ∀ d ∈ D, d.2.2.1 ≠ m) : pr D m = true := by
  unfold pr
  rw [List.all_eq_true]
  intro d hd
  rw [decide_eq_false (h d hd), Bool.and_false, Bool.not_false]
/-! ### two hands beside, and each alone -/
def zB : Str := pageT [[""], ["between"], [""]]
theorem zB_len : zB.length = 9 := by decide +kernel
theorem cl_zB : cl zB = [10, 98, 101, 116, 119, 101, 101, 110, 10] := by decide +kernel
def sgB (Ss : List Str) : List Str := sgS zB ++ [("" : Str)] ++ Ss
def orB (o : Nat → List Nat) : List Nat := o 0 ++ List.range 9 ++ o 1 ++ [9]
def TM (o : Nat → List Nat) (Ss : List Str) (D : List Deed) (u : Nat → List Nat) : TSt := ⟨sgB Ss, orB o, thereR (10 + Ss.length) D, D, [0, 9], [u 0, u 1]⟩
def orA (n : Nat) : List Nat := List.range' 1 n ++ [0]
def AL (xs : List Str) (D : List Deed) (v : List Nat) : TSt := ⟨("" : Str) :: xs, orA xs.length, thereR (1 + xs.length) D, D, [0], [v]⟩
def xsO (o : Nat → List Nat) (Ss : List Str) (h : Nat) : List Str := (o h).map fun m => (sgB Ss).getD m ""
def cvO (l : List Nat) (d : Deed) : Deed := (0, d.2.1, 1 + l.idxOf d.2.2.1, d.2.2.2)
def dsO (o : Nat → List Nat) (D : List Deed) (h : Nat) : List Deed := (D.filter fun d => decide (d.1 = h)).map (cvO (o h))
def dpos (D : List Deed) (h : Nat) : List Nat := (List.range D.length).filter fun i => decide ((D.getD i d0).1 = h)
structure Two (o : Nat → List Nat) (Ss : List Str) (D : List Deed) : Prop where
  mr : ∀ h m, m ∈ o h → 10 ≤ m ∧ m < 10 + Ss.length
  nd : ∀ h, (o h).Nodup
  dj : ∀ h h' m, m ∈ o h → m ∈ o h' → h = h'
  dd : ∀ d ∈ D, d.2.2.1 ∈ o d.1 ∧ d.1 < 2
  sm : ∀ s ∈ Ss, MarkOk s
  ds : ∀ d ∈ D, MarkOk d.2.1 ∨ d.2.1 = ""
  pd : ∀ h m, m ∈ o h → ∃ d ∈ D, d.1 = h ∧ d.2.2.1 = m ∧ d.2.1 ≠ ""
  ol : ∀ h, (o h).length ≤ Ss.length
  lS : Ss.length ≤ 100
  lD : D.length ≤ 100
theorem sgB_len {Ss : List Str} : (sgB Ss).length = 10 + Ss.length := by
  unfold sgB
  rw [List.length_append, List.length_append, sgS_len, zB_len]
  rfl
theorem sgB_ge {Ss : List Str} {i : Nat} : (sgB Ss).getD (10 + i) "" = Ss.getD i "" := by
  have e : (sgS zB ++ [("" : Str)]).length = 10 := by rw [List.length_append, sgS_len, zB_len]; rfl
  unfold sgB
  rw [List.getD_eq_getElem?_getD, List.getElem?_append_right (by omega), e, Nat.add_sub_cancel_left, ← List.getD_eq_getElem?_getD]
theorem sgB_lt {Ss : List Str} {m : Nat} (h : m < 10) : cl ((sgB Ss).getD m "") = (cl zB)[m]?.toList := by
  have e : (sgS zB ++ [("" : Str)]).length = 10 := by rw [List.length_append, sgS_len, zB_len]; rfl
  unfold sgB
  rw [List.getD_eq_getElem?_getD, List.getElem?_append_left (by omega), ← List.getD_eq_getElem?_getD]
  exact sg_getD
section
variable {o : Nat → List Nat} {Ss : List Str} {D : List Deed} {u : Nat → List Nat} {h : Nat}
theorem Two.ordlt (t : Two o Ss D) : ∀ m ∈ orB o, m < 10 + Ss.length := fun m hm => by
  unfold orB at hm
  rw [List.mem_append, List.mem_append, List.mem_append, List.mem_range, List.mem_singleton] at hm
  rcases hm with ((hm | hm) | hm) | hm
  · exact (t.mr 0 m hm).2
  · omega
  · exact (t.mr 1 m hm).2
  · omega
theorem Two.prlow (t : Two o Ss D) {m : Nat} (hm : m < 10) : pr D m = true := pr_out fun d hd e => by
  have := (t.mr _ _ (t.dd d hd).1).1
  omega
/-- marks of a hand that are there -/
def hereO (o : Nat → List Nat) (D : List Deed) (h : Nat) : List Nat := (o h).filter (pr D)
theorem here_M (t : Two o Ss D) : thoseR (orB o) (thereR (10 + Ss.length) D) = hereO o D 0 ++ List.range 9 ++ hereO o D 1 ++ [9] := by
  rw [those_pr t.ordlt]
  unfold orB hereO
  rw [List.filter_append, List.filter_append, List.filter_append, filt_all (l := List.range 9) fun x hx => t.prlow (by rw [List.mem_range] at hx; omega), filt_all (l := [9]) fun x hx => t.prlow (by rw [List.mem_singleton] at hx; omega)]
/-- a hand's text -/
def txO (o : Nat → List Nat) (Ss : List Str) (D : List Deed) (h : Nat) : Str := textR (sgB Ss) (hereO o D h)
theorem cl_M (t : Two o Ss D) : cl (textR (sgB Ss) (thoseR (orB o) (thereR (10 + Ss.length) D))) = cl (txO o Ss D 0) ++ cl zB ++ cl (txO o Ss D 1) := by
  unfold txO
  rw [here_M t, cl_textR, cl_textR, cl_textR, List.map_append, List.map_append, List.map_append, List.flatten_append, List.flatten_append, List.flatten_append]
  have e1 : ((List.range 9).map fun m => cl ((sgB Ss).getD m "")).flatten = cl zB := by
    have := flat_range (cl zB) 9 0
    rw [List.drop_zero, List.take_of_length_le (by rw [cl_zB]; decide)] at this
    refine Eq.trans ?_ this
    rw [List.range_eq_range']
    congr 1
  have e2 : ([9].map fun m => cl ((sgB Ss).getD m "")).flatten = [] := by
    show cl ((sgB Ss).getD 9 "") ++ [] = []
    rw [sgB_lt (by decide), cl_zB]
    rfl
  rw [e1, e2, List.append_nil]
theorem goR_cons (R : List (List Nat)) (C : List Nat) (c : Nat) (l : List Nat) : goR R C (c :: l) = if c = 9 then goR (R ++ [C]) [] l else if c = 10 then (R ++ [C]) :: goR [] [] l else goR R (C ++ [c]) l := rfl
theorem go_app : ∀ (l : List Nat) (R : List (List Nat)) (C l' : List Nat), goR R C (l ++ 10 :: l') = goR R C (l ++ [10]) ++ goR [] [] l'
  | [], R, C, l' => by
    show goR R C (10 :: l') = goR R C [10] ++ _
    rw [goR_cons, goR_cons, if_neg (by decide), if_pos rfl, if_neg (by decide), if_pos rfl]
    rfl
  | c :: l, R, C, l' => by
    show goR R C (c :: (l ++ 10 :: l')) = goR R C (c :: (l ++ [10])) ++ _
    rw [goR_cons, goR_cons]
    by_cases h9 : c = 9
    · rw [if_pos h9, if_pos h9]
      exact go_app l _ _ l'
    · rw [if_neg h9, if_neg h9]
      by_cases h10 : c = 10
      · rw [if_pos h10, if_pos h10, go_app l [] [] l']
        rfl
      · rw [if_neg h10, if_neg h10]
        exact go_app l _ _ l'
theorem map_cl_inj : ∀ {a b : List (List Str)}, a.map (List.map cl) = b.map (List.map cl) → a = b := by
  have h1 : ∀ {a b : List Str}, a.map cl = b.map cl → a = b := by
    intro a
    induction a with
    | nil => intro b h; cases b with
      | nil => rfl
      | cons y b => cases h
    | cons x a ih => intro b h; cases b with
      | nil => cases h
      | cons y b =>
        rw [List.map_cons, List.map_cons] at h
        injection h with h1 h2
        rw [str_of h1, ih h2]
  intro a
  induction a with
  | nil => intro b h; cases b with
    | nil => rfl
    | cons y b => cases h
  | cons x a ih => intro b h; cases b with
    | nil => cases h
    | cons y b =>
      rw [List.map_cons, List.map_cons] at h
      injection h with e1 e2
      rw [h1 e1, ih e2]
theorem rows_M (t : Two o Ss D) : pageR (sgB Ss) (orB o) D = rowsT (txO o Ss D 0) ++ ([["between"]] : List (List Str)) ++ rowsT (txO o Ss D 1) := by
  refine map_cl_inj ?_
  have eb : ([["between"]] : List (List Str)).map (List.map cl) = goR [] [] [98, 101, 116, 119, 101, 101, 110, 10] := by decide +kernel
  rw [List.map_append, List.map_append, rowsT_cl (txO o Ss D 0), rowsT_cl (txO o Ss D 1), eb]
  unfold pageR
  rw [sgB_len, rowsT_cl, cl_M t, cl_zB]
  have e : cl (txO o Ss D 0) ++ [10, 98, 101, 116, 119, 101, 101, 110, 10] ++ cl (txO o Ss D 1) ++ [10] = cl (txO o Ss D 0) ++ 10 :: ([98, 101, 116, 119, 101, 101, 110] ++ 10 :: (cl (txO o Ss D 1) ++ [10])) := by simp
  rw [e, go_app (cl (txO o Ss D 0)) [] [] ([98, 101, 116, 119, 101, 101, 110] ++ 10 :: (cl (txO o Ss D 1) ++ [10])), go_app [98, 101, 116, 119, 101, 101, 110] [] [] (cl (txO o Ss D 1) ++ [10]), List.append_assoc]
  rfl
/-! ### alone -/
theorem idx_of {l : List Nat} (nd : l.Nodup) {j m : Nat} (h : l[j]? = some m) : l.idxOf m = j := by
  have hm := List.mem_of_getElem? h
  obtain ⟨g1, g2, _⟩ := idx_nat hm
  exact nodup_inj nd g1 h
theorem pr_O (t : Two o Ss D) {j m : Nat} (hj : (o h)[j]? = some m) : pr (dsO o D h) (1 + j) = pr D m := by
  have hm := List.mem_of_getElem? hj
  unfold pr dsO
  rw [List.all_map]
  rw [Bool.eq_iff_iff, List.all_eq_true, List.all_eq_true]
  constructor
  · intro q d hd
    by_cases c : d.1 = h
    · have := q d (List.mem_filter.mpr ⟨hd, decide_eq_true c⟩)
      have this : (!(killD d && decide (1 + (o h).idxOf d.2.2.1 = 1 + j))) = true := this
      by_cases e : d.2.2.1 = m
      · rw [e, idx_of (t.nd h) hj, decide_eq_true rfl] at this
        rw [decide_eq_true e]
        exact this
      · rw [decide_eq_false e, Bool.and_false]
        rfl
    · have ne : d.2.2.1 ≠ m := fun e => c (t.dj _ _ _ (t.dd d hd).1 (e ▸ hm))
      rw [decide_eq_false ne, Bool.and_false]
      rfl
  · intro q d hd
    obtain ⟨hd, c⟩ := List.mem_filter.mp hd
    have c := of_decide_eq_true c
    have := q d hd
    show (!(killD d && decide (1 + (o h).idxOf d.2.2.1 = 1 + j))) = true
    by_cases e : d.2.2.1 = m
    · rw [decide_eq_true e] at this
      rw [e, idx_of (t.nd h) hj, decide_eq_true rfl]
      exact this
    · have ne : (o h).idxOf d.2.2.1 ≠ j := fun z => e (by
        have hmem : d.2.2.1 ∈ o h := c ▸ (t.dd d hd).1
        obtain ⟨g1, _, _⟩ := idx_nat hmem
        rw [z, hj] at g1
        exact (Option.some.inj g1).symm)
      rw [decide_eq_false (fun z => ne (by omega)), Bool.and_false]
      rfl
theorem xsO_len : (xsO o Ss h).length = (o h).length := by unfold xsO; rw [List.length_map]
theorem orA_lt {n m : Nat} (hm : m ∈ orA n) : m < 1 + n := by
  unfold orA at hm
  rw [List.mem_append, List.mem_range'_1, List.mem_singleton] at hm
  omega
theorem dsO_mem {d : Deed} (t : Two o Ss D) (hd : d ∈ dsO o D h) : ∃ e ∈ D, e.1 = h ∧ d = cvO (o h) e ∧ 1 ≤ d.2.2.1 ∧ d.2.2.1 < 1 + (o h).length := by
  unfold dsO at hd
  obtain ⟨e, he, rfl⟩ := List.mem_map.mp hd
  obtain ⟨he, c⟩ := List.mem_filter.mp he
  have c := of_decide_eq_true c
  have hmem : e.2.2.1 ∈ o h := c ▸ (t.dd e he).1
  obtain ⟨_, g2, _⟩ := idx_nat hmem
  exact ⟨e, he, c, rfl, by show 1 ≤ 1 + _; omega, by show 1 + _ < _; omega⟩
theorem here_A (t : Two o Ss D) : thoseR (orA (xsO o Ss h).length) (thereR (1 + (xsO o Ss h).length) (dsO o D h)) = (hereO o D h).map (fun m => 1 + (o h).idxOf m) ++ [0] := by
  rw [those_pr fun m hm => orA_lt hm]
  unfold orA
  rw [List.filter_append, filt_all (l := [0]) fun x hx => pr_out fun d hd => by
    obtain ⟨_, _, _, _, g, _⟩ := dsO_mem t hd
    rw [List.mem_singleton] at hx
    omega]
  congr 1
  unfold hereO
  have e : o h = (List.range (o h).length).map fun j => (o h).getD j 0 := by
    apply List.ext_getElem?
    intro i
    rw [List.getElem?_map]
    by_cases c : i < (o h).length
    · rw [List.getElem?_range c, List.getElem?_eq_getElem c]
      show some _ = some ((o h).getD i 0)
      rw [List.getD_eq_getElem?_getD, List.getElem?_eq_getElem c]
      rfl
    · rw [List.getElem?_eq_none (by omega), List.getElem?_eq_none (by rw [List.length_range]; omega)]
      rfl
  have at_ : ∀ j, j < (o h).length → (o h)[j]? = some ((o h).getD j 0) := fun j hj => by rw [List.getD_eq_getElem?_getD, List.getElem?_eq_getElem hj]; rfl
  have key : ∀ l : List Nat, (∀ j ∈ l, j < (o h).length) → (l.map fun j => 1 + j).filter (pr (dsO o D h)) = ((l.map fun j => (o h).getD j 0).filter (pr D)).map fun m => 1 + (o h).idxOf m := by
    intro l
    induction l with
    | nil => intro _; rfl
    | cons j l ih =>
      intro hl
      have hj := hl j (by simp)
      have a := at_ j hj
      rw [List.map_cons, List.map_cons, List.filter_cons, List.filter_cons, pr_O t a, ih fun i hi => hl i (by simp [hi])]
      cases pr D ((o h).getD j 0) with
      | true =>
        rw [if_pos rfl, if_pos rfl, List.map_cons, idx_of (t.nd h) a]
      | false => rfl
  have k := key (List.range (o h).length) fun j hj => List.mem_range.mp hj
  rw [← e] at k
  rw [xsO_len, List.range'_eq_map_range]
  exact k
theorem text_A (t : Two o Ss D) : textR (("" : Str) :: xsO o Ss h) (thoseR (orA (xsO o Ss h).length) (thereR (1 + (xsO o Ss h).length) (dsO o D h))) = txO o Ss D h := by
  refine str_of ?_
  unfold txO
  rw [here_A t, cl_textR, cl_textR, List.map_append, List.flatten_append, List.map_map]
  have e0 : ([0].map fun m => cl ((("" : Str) :: xsO o Ss h).getD m "")).flatten = [] := by
    show cl ("" : Str) ++ [] = []
    decide +kernel
  rw [e0, List.append_nil]
  congr 1
  apply List.map_congr_left
  intro m hm
  have hm : m ∈ o h := (List.mem_filter.mp hm).1
  obtain ⟨g1, _, _⟩ := idx_nat hm
  show cl ((("" : Str) :: xsO o Ss h).getD (1 + (o h).idxOf m) "") = cl ((sgB Ss).getD m "")
  rw [Nat.add_comm, List.getD_cons_succ]
  unfold xsO
  rw [List.getD_eq_getElem?_getD, List.getElem?_map, g1]
  rfl
theorem rows_A (t : Two o Ss D) : pageR (("" : Str) :: xsO o Ss h) (orA (xsO o Ss h).length) (dsO o D h) = rowsT (txO o Ss D h) := by
  unfold pageR
  have e : (("" : Str) :: xsO o Ss h).length = 1 + (xsO o Ss h).length := by rw [List.length_cons, Nat.add_comm]
  rw [e, text_A t]
/-- what is a page beside the other one is one alone -/
theorem pg_part {a b c : List (List Str)} (ha : 1 ≤ a.length) (hc : 1 ≤ c.length) (p : PgOk (a ++ b ++ c)) : PgOk a ∧ PgOk c := by
  have l := p.len
  rw [List.length_append, List.length_append] at l
  exact ⟨⟨ha, by omega, fun r hr => p.rows r (by simp [hr])⟩, ⟨hc, by omega, fun r hr => p.rows r (by simp [hr])⟩⟩
theorem pg_O (t : Two o Ss D) (p : PgOk (pageR (sgB Ss) (orB o) D)) : PgOk (rowsT (txO o Ss D 0)) ∧ PgOk (rowsT (txO o Ss D 1)) := by
  rw [rows_M t] at p
  exact pg_part (rowsT_pos _).1 (rowsT_pos _).1 p
end
end TG

namespace TG
open PySem PySem.Spec PyProof.Rows L2 NdefX GenW Gx Lv
/-! ### marks, signs, deeds of both -/
def fset {α : Type} (f : Nat → α) (h : Nat) (x : α) : Nat → α := fun k => if k = h then x else f k
theorem fset_same {α : Type} {f : Nat → α} {h : Nat} {x : α} : fset f h x h = x := if_pos rfl
theorem fset_ne {α : Type} {f : Nat → α} {h k : Nat} {x : α} (n : k ≠ h) : fset f h x k = f k := if_neg n
section
variable {o : Nat → List Nat} {Ss : List Str} {D : List Deed} {u v : Nat → List Nat} {h : Nat}
theorem sgB_mem {x : Str} (sm : ∀ s ∈ Ss, MarkOk s) (hx : x ∈ sgB Ss) : x.length ≤ 1 ∧ ∀ c ∈ cl x, SgOk c ∨ c = 9 ∨ c = 10 := by
  unfold sgB at hx
  rcases List.mem_append.mp hx with hx | hx
  · rcases List.mem_append.mp hx with hx | hx
    · unfold sgS at hx
      obtain ⟨c, hc, rfl⟩ := List.mem_map.mp hx
      refine ⟨Nat.le_refl _, fun d hd => ?_⟩
      have hd : d ∈ [c] := hd
      rw [List.mem_singleton] at hd
      have hc : c ∈ cl zB := hc
      rw [hd]
      rw [cl_zB] at hc
      simp only [List.mem_cons, List.not_mem_nil, or_false] at hc
      unfold SgOk
      omega
    · rw [List.mem_singleton] at hx
      rw [hx]
      refine ⟨by decide, fun c hc => ?_⟩
      have e0 : cl ("" : Str) = [] := by decide +kernel
      rw [e0] at hc
      cases hc
  · exact ⟨by rw [(sm x hx).len]; exact Nat.le_refl _, (sm x hx).sg⟩
theorem sgB_get (sm : ∀ s ∈ Ss, MarkOk s) (m : Nat) : ((sgB Ss).getD m "").length ≤ 1 ∧ ∀ c ∈ cl ((sgB Ss).getD m ""), SgOk c ∨ c = 9 ∨ c = 10 := by
  rw [List.getD_eq_getElem?_getD]
  cases e : (sgB Ss)[m]? with
  | some x => exact sgB_mem sm (List.mem_of_getElem? e)
  | none =>
    refine ⟨by show ("" : Str).length ≤ 1; decide, fun c hc => ?_⟩
    have e0 : cl ("" : Str) = [] := by decide +kernel
    have hc : c ∈ cl ("" : Str) := hc
    rw [e0] at hc
    cases hc
theorem textSg {signs : List Str} {marks : List Nat} (g : ∀ m, ∀ c ∈ cl (signs.getD m ""), SgOk c ∨ c = 9 ∨ c = 10) : TxtSg (textR signs marks) := fun c hc => by
  rw [cl_textR] at hc
  obtain ⟨l, hl, hc⟩ := List.mem_flatten.mp hc
  obtain ⟨m, _, rfl⟩ := List.mem_map.mp hl
  exact g m c hc
theorem xsA_get (sm : ∀ s ∈ Ss, MarkOk s) (m : Nat) : ((("" : Str) :: xsO o Ss h).getD m "").length ≤ 1 ∧ ∀ c ∈ cl ((("" : Str) :: xsO o Ss h).getD m ""), SgOk c ∨ c = 9 ∨ c = 10 := by
  have z : ("" : Str).length ≤ 1 ∧ ∀ c ∈ cl ("" : Str), SgOk c ∨ c = 9 ∨ c = 10 := by
    refine ⟨by decide, fun c hc => ?_⟩
    have e0 : cl ("" : Str) = [] := by decide +kernel
    rw [e0] at hc
    cases hc
  rw [List.getD_eq_getElem?_getD]
  cases e : (("" : Str) :: xsO o Ss h)[m]? with
  | none => exact z
  | some x =>
    rcases List.mem_cons.mp (List.mem_of_getElem? e) with q | q
    · rw [q]; exact z
    · unfold xsO at q
      obtain ⟨m, _, rfl⟩ := List.mem_map.mp q
      exact sgB_get sm m
theorem orB_len : (orB o).length = (o 0).length + (o 1).length + 10 := by
  unfold orB
  rw [List.length_append, List.length_append, List.length_append, List.length_range]
  show _ + 1 = _
  omega
theorem low_mem {s : Nat} (hs : s = 0 ∨ s = 9) : s ∈ orB o := by
  unfold orB
  rcases hs with e | e
  · rw [e]
    exact List.mem_append_left _ (List.mem_append_left _ (List.mem_append_right _ (List.mem_range.mpr (by decide))))
  · rw [e]
    exact List.mem_append_right _ (List.mem_singleton.mpr rfl)
theorem first_M (t : Two o Ss D) {s : Nat} (hs : s = 0 ∨ s = 9) : firstR (orB o) (thereR (10 + Ss.length) D) s = s ∧ ∃ m ∈ (orB o).drop ((orB o).idxOf s), (thereR (10 + Ss.length) D).getD m false = true :=
  firstR_self (low_mem hs) (by rw [there_pr (by omega)]; exact t.prlow (by omega))
theorem zero_mem {n : Nat} : 0 ∈ orA n := List.mem_append_right _ (List.mem_singleton.mpr rfl)
theorem dsO_pos (t : Two o Ss D) : ∀ d ∈ dsO o D h, d.2.2.1 ≠ 0 := fun d hd => by
  obtain ⟨_, _, _, _, g, _⟩ := dsO_mem t hd
  omega
theorem first_A (t : Two o Ss D) : firstR (orA (xsO o Ss h).length) (thereR (1 + (xsO o Ss h).length) (dsO o D h)) 0 = 0 ∧ ∃ m ∈ (orA (xsO o Ss h).length).drop ((orA (xsO o Ss h).length).idxOf 0), (thereR (1 + (xsO o Ss h).length) (dsO o D h)).getD m false = true :=
  firstR_self zero_mem (by rw [there_pr (by omega)]; exact pr_out (dsO_pos t))
theorem dsO_le : (dsO o D h).length ≤ D.length := by unfold dsO; rw [List.length_map]; exact List.length_filter_le _ _
theorem set_M (t : Two o Ss D) {S : TSt} (hs : S.spots = [0, 9]) : SetPre S (sgB Ss) (orB o) D := by
  have l0 := t.ol 0
  have l1 := t.ol 1
  have lS := t.lS
  refine ⟨fun z hz => (sgB_mem t.sm hz).1, by rw [sgB_len]; omega, fun m hm => by rw [sgB_len]; exact t.ordlt m hm, by rw [orB_len]; omega, fun d hd => by rw [sgB_len]; exact (t.mr _ _ (t.dd d hd).1).2, by have := t.lD; omega, fun s hs2 => ?_, textSg fun m => (sgB_get t.sm m).2, by rw [hs]; decide⟩
  rw [hs] at hs2
  have hs2 : s = 0 ∨ s = 9 := by simpa using hs2
  rw [sgB_len]
  exact ⟨low_mem hs2, (first_M t hs2).2⟩
theorem cons_len (t : Two o Ss D) : (("" : Str) :: xsO o Ss h).length = 1 + (xsO o Ss h).length := by rw [List.length_cons, Nat.add_comm]
theorem orA_len (n : Nat) : (orA n).length = n + 1 := by unfold orA; rw [List.length_append, List.length_range']; rfl
theorem set_A (t : Two o Ss D) {S : TSt} (hs : S.spots = [0]) : SetPre S (("" : Str) :: xsO o Ss h) (orA (xsO o Ss h).length) (dsO o D h) := by
  have l0 := t.ol h
  have lS := t.lS
  have lx := xsO_len (o := o) (Ss := Ss) (h := h)
  refine ⟨fun z hz => ?_, by rw [cons_len t]; omega, fun m hm => by rw [cons_len t]; exact orA_lt hm, by rw [orA_len]; omega, fun d hd => ?_, by have := t.lD; have := dsO_le (o := o) (D := D) (h := h); omega, fun s hs2 => ?_, textSg fun m => (xsA_get t.sm m).2, by rw [hs]; decide⟩
  · rcases List.mem_cons.mp hz with e | e
    · rw [e]; decide
    · unfold xsO at e
      obtain ⟨m, _, rfl⟩ := List.mem_map.mp e
      exact (sgB_get t.sm m).1
  · obtain ⟨_, _, _, _, _, g⟩ := dsO_mem t hd
    rw [cons_len t, lx]
    exact g
  · rw [hs, List.mem_singleton] at hs2
    rw [hs2, cons_len t]
    exact ⟨zero_mem, (first_A t).2⟩
theorem settle_M (t : Two o Ss D) {S : TSt} (hs : S.spots = [0, 9]) : settleR S (sgB Ss) (orB o) D = ⟨sgB Ss, orB o, thereR (10 + Ss.length) D, D, [0, 9], S.undone⟩ := by
  unfold settleR
  rw [hs, sgB_len, List.map_cons, List.map_cons, List.map_nil, (first_M t (.inl rfl)).1, (first_M t (.inr rfl)).1]
theorem settle_A (t : Two o Ss D) {S : TSt} (hs : S.spots = [0]) : settleR S (("" : Str) :: xsO o Ss h) (orA (xsO o Ss h).length) (dsO o D h) = ⟨("" : Str) :: xsO o Ss h, orA (xsO o Ss h).length, thereR (1 + (xsO o Ss h).length) (dsO o D h), dsO o D h, [0], S.undone⟩ := by
  unfold settleR
  rw [hs, cons_len t, List.map_cons, List.map_nil, (first_A t).1]
theorem tok_M (t : Two o Ss D) (hu : ∀ h, h < 2 → (u h).length ≤ 100 ∧ ∀ n ∈ u h, n < D.length) : TOk (TM o Ss D u) := by
  have p := set_M t (S := TM o Ss D u) rfl
  refine ⟨p.one, p.many, p.ord, p.ol, by show (thereR (10 + Ss.length) D).length = (sgB Ss).length; rw [thereR_len, sgB_len], p.dm, p.dn, fun s hs => ?_, rfl, by show 2 ≤ 4; decide, fun l hl => ?_⟩
  · have hs : s ∈ [0, 9] := hs
    have hs : s = 0 ∨ s = 9 := by simpa using hs
    have e : thoseR (TM o Ss D u).order (TM o Ss D u).there = _ := here_M t
    rw [e]
    rcases hs with q | q
    · rw [q]
      exact List.mem_append_left _ (List.mem_append_left _ (List.mem_append_right _ (List.mem_range.mpr (by decide))))
    · rw [q]
      exact List.mem_append_right _ (List.mem_singleton.mpr rfl)
  · have hl : l ∈ [u 0, u 1] := hl
    have hl : l = u 0 ∨ l = u 1 := by simpa using hl
    rcases hl with q | q
    · rw [q]; exact ⟨by have := (hu 0 (by decide)).1; omega, (hu 0 (by decide)).2⟩
    · rw [q]; exact ⟨by have := (hu 1 (by decide)).1; omega, (hu 1 (by decide)).2⟩
theorem tok_A (t : Two o Ss D) {w : List Nat} (hu : w.length ≤ 100 ∧ ∀ n ∈ w, n < (dsO o D h).length) : TOk (AL (xsO o Ss h) (dsO o D h) w) := by
  have p := set_A (h := h) t (S := AL (xsO o Ss h) (dsO o D h) w) rfl
  refine ⟨p.one, p.many, p.ord, p.ol, by show (thereR (1 + (xsO o Ss h).length) (dsO o D h)).length = _; rw [thereR_len, ← cons_len t]; rfl, p.dm, p.dn, fun s hs => ?_, rfl, by show 1 ≤ 4; decide, fun l hl => ?_⟩
  · have hs : s ∈ [0] := hs
    rw [List.mem_singleton] at hs
    have e : thoseR (AL (xsO o Ss h) (dsO o D h) w).order (AL (xsO o Ss h) (dsO o D h) w).there = _ := here_A t
    rw [e, hs]
    exact List.mem_append_right _ (List.mem_singleton.mpr rfl)
  · have hl : l ∈ [w] := hl
    rw [List.mem_singleton] at hl
    rw [hl]
    exact ⟨by omega, hu.2⟩
end
end TG

namespace TG
open PySem PySem.Spec PyProof.Rows L2 NdefX GenW Gx Lv
/-! ### pressed -/
section
variable {o : Nat → List Nat} {Ss : List Str} {D : List Deed} {u v : Nat → List Nat} {h : Nat} {s : Str}
abbrev oP (o : Nat → List Nat) (Ss : List Str) (h : Nat) : Nat → List Nat := fset o h (o h ++ [10 + Ss.length])
abbrev dP (D : List Deed) (Ss : List Str) (h : Nat) (s : Str) : List Deed := D ++ [((h, s, 10 + Ss.length, true) : Deed)]
theorem oP_same : oP o Ss h h = o h ++ [10 + Ss.length] := fset_same
theorem oP_ne {k : Nat} (n : k ≠ h) : oP o Ss h k = o k := fset_ne n
theorem oP_mem {k m : Nat} (hm : m ∈ oP o Ss h k) : m ∈ o k ∨ (k = h ∧ m = 10 + Ss.length) := by
  by_cases c : k = h
  · subst c
    rw [oP_same] at hm
    rcases List.mem_append.mp hm with q | q
    · exact .inl q
    · exact .inr ⟨rfl, List.mem_singleton.mp q⟩
  · rw [oP_ne c] at hm
    exact .inl hm
theorem oP_of {k m : Nat} (hm : m ∈ o k) : m ∈ oP o Ss h k := by
  by_cases c : k = h
  · subst c
    rw [oP_same]
    exact List.mem_append_left _ hm
  · rw [oP_ne c]
    exact hm
theorem Two.press (t : Two o Ss D) (h2 : h < 2) (hs : MarkOk s) (l1 : Ss.length ≤ 90) (l2 : D.length ≤ 90) : Two (oP o Ss h) (Ss ++ [s]) (dP D Ss h s) := by
  have ll : (Ss ++ [s]).length = Ss.length + 1 := by rw [List.length_append]; rfl
  refine ⟨fun k m hm => ?_, fun k => ?_, fun k k' m hm hm' => ?_, fun d hd => ?_, fun x hx => ?_, fun d hd => ?_, fun k m hm => ?_, fun k => ?_, by omega, by rw [List.length_append]; show D.length + 1 ≤ 100; omega⟩
  · rw [ll]
    rcases oP_mem hm with q | ⟨_, q⟩
    · have := t.mr k m q; omega
    · omega
  · by_cases c : k = h
    · subst c
      rw [oP_same, List.nodup_append]
      refine ⟨t.nd k, by simp, fun a ha b hb e => ?_⟩
      rw [List.mem_singleton] at hb
      have := (t.mr k a ha).2
      omega
    · rw [oP_ne c]
      exact t.nd k
  · rcases oP_mem hm with q | ⟨q1, q2⟩ <;> rcases oP_mem hm' with r | ⟨r1, r2⟩
    · exact t.dj k k' m q r
    · have := (t.mr k m q).2; omega
    · have := (t.mr k' m r).2; omega
    · omega
  · rcases List.mem_append.mp hd with q | q
    · exact ⟨oP_of (t.dd d q).1, (t.dd d q).2⟩
    · rw [List.mem_singleton] at q
      rw [q]
      refine ⟨?_, h2⟩
      show 10 + Ss.length ∈ oP o Ss h h
      rw [oP_same]
      exact List.mem_append_right _ (List.mem_singleton.mpr rfl)
  · rcases List.mem_append.mp hx with q | q
    · exact t.sm x q
    · rw [List.mem_singleton] at q
      rw [q]; exact hs
  · rcases List.mem_append.mp hd with q | q
    · exact t.ds d q
    · rw [List.mem_singleton] at q
      rw [q]; exact .inl hs
  · rcases oP_mem hm with q | ⟨q1, q2⟩
    · obtain ⟨d, g1, g2⟩ := t.pd k m q
      exact ⟨d, List.mem_append_left _ g1, g2⟩
    · refine ⟨(h, s, 10 + Ss.length, true), List.mem_append_right _ (List.mem_singleton.mpr rfl), q1.symm, q2.symm, fun e => ?_⟩
      have := hs.len
      have e : s = "" := e
      rw [e] at this
      have e0 : ("" : Str).length = 0 := by decide +kernel
      rw [e0] at this
      cases this
  · rw [ll]
    have := t.ol k
    by_cases c : k = h
    · subst c
      rw [oP_same, List.length_append]
      show (o k).length + 1 ≤ _
      omega
    · rw [oP_ne c]
      omega
theorem sgB_old {m : Nat} (hm : m < 10 + Ss.length) : (sgB (Ss ++ [s])).getD m "" = (sgB Ss).getD m "" := by
  have e : sgB (Ss ++ [s]) = sgB Ss ++ [s] := by unfold sgB; rw [List.append_assoc, List.append_assoc, List.append_assoc]
  rw [e, List.getD_eq_getElem?_getD, List.getElem?_append_left (by rw [sgB_len]; exact hm), ← List.getD_eq_getElem?_getD]
theorem xsO_P (t : Two o Ss D) (k : Nat) : xsO (oP o Ss h) (Ss ++ [s]) k = if k = h then xsO o Ss h ++ [s] else xsO o Ss k := by
  have old : ∀ k, (o k).map (fun m => (sgB (Ss ++ [s])).getD m "") = xsO o Ss k := fun k => List.map_congr_left fun m hm => sgB_old (t.mr k m hm).2
  unfold xsO
  by_cases c : k = h
  · subst c
    rw [if_pos rfl, oP_same, List.map_append, old]
    congr 1
    show [(sgB (Ss ++ [s])).getD (10 + Ss.length) ""] = [s]
    rw [sgB_ge, List.getD_eq_getElem?_getD, List.getElem?_append_right (Nat.le_refl _), Nat.sub_self]
    rfl
  · rw [if_neg c, oP_ne c, old]
    rfl
theorem dsO_P (t : Two o Ss D) (k : Nat) : dsO (oP o Ss h) (dP D Ss h s) k = if k = h then dsO o D h ++ [((0, s, 1 + (o h).length, true) : Deed)] else dsO o D k := by
  have old : (D.filter fun d => decide (d.1 = k)).map (cvO (oP o Ss h k)) = dsO o D k := by
    unfold dsO
    refine List.map_congr_left fun d hd => ?_
    obtain ⟨hd, c⟩ := List.mem_filter.mp hd
    have c := of_decide_eq_true c
    have hm : d.2.2.1 ∈ o k := c ▸ (t.dd d hd).1
    unfold cvO
    by_cases e : k = h
    · subst e
      rw [oP_same, List.idxOf_append, if_pos hm]
    · rw [oP_ne e]
  have e1 : dsO (oP o Ss h) (dP D Ss h s) k = (D.filter fun d => decide (d.1 = k)).map (cvO (oP o Ss h k)) ++ ([((h, s, 10 + Ss.length, true) : Deed)].filter fun d => decide (d.1 = k)).map (cvO (oP o Ss h k)) := by
    unfold dsO
    rw [List.filter_append, List.map_append]
  rw [e1, old]
  by_cases c : k = h
  · subst c
    rw [if_pos rfl]
    congr 1
    rw [List.filter_cons, if_pos (decide_eq_true rfl)]
    show [cvO (oP o Ss k k) (k, s, 10 + Ss.length, true)] = _
    unfold cvO
    have ni : 10 + Ss.length ∉ o k := fun z => by have := (t.mr k _ z).2; omega
    rw [oP_same, List.idxOf_append, if_neg ni]
    simp [List.idxOf_cons]
  · rw [if_neg c, List.filter_cons, if_neg (by rw [decide_eq_false (fun e => c e.symm)]; exact Bool.false_ne_true)]
    exact List.append_nil _
theorem ordP_M (t : Two o Ss D) (h2 : h < 2) : ordP (TM o Ss D u) h = orB (oP o Ss h) := by
  have es : (TM o Ss D u).signs.length = 10 + Ss.length := sgB_len
  have lo : ∀ k m, m < 10 → m ∉ o k := fun k m hm z => by have := (t.mr k m z).1; omega
  unfold ordP
  rw [es]
  have hh : h = 0 ∨ h = 1 := by omega
  rcases hh with e | e
  · subst e
    have e1 : (TM o Ss D u).spots.getD 0 0 = 0 := rfl
    rw [e1]
    show (orB o).take ((orB o).idxOf 0) ++ _ ++ (orB o).drop ((orB o).idxOf 0) = _
    have ei : (orB o).idxOf 0 = (o 0).length := by
      unfold orB
      rw [List.append_assoc, List.append_assoc, List.idxOf_append, if_neg (lo 0 0 (by decide))]
      show (0 :: _ : List Nat).idxOf 0 + _ = _
      simp [List.idxOf_cons]
    rw [ei]
    unfold orB
    rw [oP_same, oP_ne (by decide), List.append_assoc (o 0), List.append_assoc (o 0), List.take_left, List.drop_left]
    simp
  · subst e
    have e1 : (TM o Ss D u).spots.getD 1 0 = 9 := rfl
    rw [e1]
    show (orB o).take ((orB o).idxOf 9) ++ _ ++ (orB o).drop ((orB o).idxOf 9) = _
    have nm : 9 ∉ o 0 ++ List.range 9 ++ o 1 := fun z => by
      rw [List.mem_append, List.mem_append, List.mem_range] at z
      rcases z with (z | z) | z
      · exact lo 0 9 (by decide) z
      · omega
      · exact lo 1 9 (by decide) z
    have ei : (orB o).idxOf 9 = (o 0 ++ List.range 9 ++ o 1).length := by
      unfold orB
      rw [List.idxOf_append, if_neg nm]
      simp [List.idxOf_cons]
    rw [ei]
    unfold orB
    rw [oP_same, oP_ne (by decide), List.take_left, List.drop_left]
    simp
theorem set2 (h2 : h < 2) (x : List Nat) : [u 0, u 1].set h x = [fset u h x 0, fset u h x 1] := by
  have hh : h = 0 ∨ h = 1 := by omega
  rcases hh with e | e <;> subst e <;> rfl
theorem press_M (t : Two o Ss D) (h2 : h < 2) (hs : MarkOk s) (l1 : Ss.length ≤ 90) (l2 : D.length ≤ 90) : pressR (TM o Ss D u) h s = TM (oP o Ss h) (Ss ++ [s]) (dP D Ss h s) (fset u h []) := by
  unfold pressR
  have e1 : (TM o Ss D u).signs ++ [s] = sgB (Ss ++ [s]) := by show sgB Ss ++ [s] = _; unfold sgB; rw [List.append_assoc, List.append_assoc]
  have e2 : deedP (TM o Ss D u) h s = dP D Ss h s := by
    unfold deedP
    rw [show (TM o Ss D u).signs.length = 10 + Ss.length from sgB_len]
    rfl
  rw [e1, ordP_M t h2, e2, settle_M (t.press h2 hs l1 l2) (S := TM o Ss D u) rfl]
  show (⟨sgB (Ss ++ [s]), _, _, _, [0, 9], [u 0, u 1].set h []⟩ : TSt) = _
  rw [set2 h2]
  rfl
theorem pre_press_M (t : Two o Ss D) (h2 : h < 2) (hs : MarkOk s) (l1 : Ss.length ≤ 90) (l2 : D.length ≤ 90) : SetPre (TM o Ss D u) ((TM o Ss D u).signs ++ [s]) (ordP (TM o Ss D u) h) (deedP (TM o Ss D u) h s) ∧ pageR ((TM o Ss D u).signs ++ [s]) (ordP (TM o Ss D u) h) (deedP (TM o Ss D u) h s) = pageR (sgB (Ss ++ [s])) (orB (oP o Ss h)) (dP D Ss h s) := by
  have e1 : (TM o Ss D u).signs ++ [s] = sgB (Ss ++ [s]) := by show sgB Ss ++ [s] = _; unfold sgB; rw [List.append_assoc, List.append_assoc]
  have e2 : deedP (TM o Ss D u) h s = dP D Ss h s := by
    unfold deedP
    rw [show (TM o Ss D u).signs.length = 10 + Ss.length from sgB_len]
    rfl
  rw [e1, ordP_M t h2, e2]
  exact ⟨set_M (t.press h2 hs l1 l2) rfl, rfl⟩
theorem ordP_A {xs : List Str} {E : List Deed} {w : List Nat} : ordP (AL xs E w) 0 = orA (xs.length + 1) := by
  unfold ordP
  have es : (AL xs E w).signs.length = xs.length + 1 := rfl
  have e1 : (AL xs E w).spots.getD 0 0 = 0 := rfl
  rw [es, e1]
  show (orA xs.length).take ((orA xs.length).idxOf 0) ++ [xs.length + 1] ++ (orA xs.length).drop ((orA xs.length).idxOf 0) = _
  have ei : (orA xs.length).idxOf 0 = (List.range' 1 xs.length).length := by
    unfold orA
    rw [List.idxOf_append, if_neg (by rw [List.mem_range'_1]; omega)]
    simp [List.idxOf_cons]
  rw [ei]
  unfold orA
  rw [List.take_left, List.drop_left, List.range'_1_concat, Nat.add_comm 1]
theorem press_A (t : Two o Ss D) (h2 : h < 2) (hs : MarkOk s) (l1 : Ss.length ≤ 90) (l2 : D.length ≤ 90) {w : List Nat} : pressR (AL (xsO o Ss h) (dsO o D h) w) 0 s = AL (xsO (oP o Ss h) (Ss ++ [s]) h) (dsO (oP o Ss h) (dP D Ss h s) h) [] ∧
    SetPre (AL (xsO o Ss h) (dsO o D h) w) ((AL (xsO o Ss h) (dsO o D h) w).signs ++ [s]) (ordP (AL (xsO o Ss h) (dsO o D h) w) 0) (deedP (AL (xsO o Ss h) (dsO o D h) w) 0 s) ∧
    pageR ((AL (xsO o Ss h) (dsO o D h) w).signs ++ [s]) (ordP (AL (xsO o Ss h) (dsO o D h) w) 0) (deedP (AL (xsO o Ss h) (dsO o D h) w) 0 s) = rowsT (txO (oP o Ss h) (Ss ++ [s]) (dP D Ss h s) h) := by
  have ex := xsO_P (h := h) (s := s) t h
  have ed := dsO_P (h := h) (s := s) t h
  rw [if_pos rfl] at ex ed
  have t2 := t.press h2 hs l1 l2
  have e1 : (AL (xsO o Ss h) (dsO o D h) w).signs ++ [s] = ("" : Str) :: xsO (oP o Ss h) (Ss ++ [s]) h := by rw [ex]; rfl
  have e2 : ordP (AL (xsO o Ss h) (dsO o D h) w) 0 = orA (xsO (oP o Ss h) (Ss ++ [s]) h).length := by rw [ordP_A, ex, List.length_append]; rfl
  have e3 : deedP (AL (xsO o Ss h) (dsO o D h) w) 0 s = dsO (oP o Ss h) (dP D Ss h s) h := by
    unfold deedP
    rw [ed]
    show dsO o D h ++ [((0, s, (("" : Str) :: xsO o Ss h).length, true) : Deed)] = _
    rw [cons_len t, xsO_len]
  unfold pressR
  rw [e1, e2, e3, settle_A t2 (S := AL (xsO o Ss h) (dsO o D h) w) rfl]
  exact ⟨rfl, set_A t2 rfl, rows_A t2⟩
end
end TG

namespace TG
open PySem PySem.Spec PyProof.Rows L2 NdefX GenW Gx Lv
/-! ### whose deed is which -/
theorem self_map {α : Type} (l : List α) (d : α) : l = (List.range l.length).map fun i => l.getD i d := by
  apply List.ext_getElem?
  intro i
  rw [List.getElem?_map]
  by_cases c : i < l.length
  · rw [List.getElem?_range c, List.getElem?_eq_getElem c]
    show some _ = some (l.getD i d)
    rw [List.getD_eq_getElem?_getD, List.getElem?_eq_getElem c]
    rfl
  · rw [List.getElem?_eq_none (by omega), List.getElem?_eq_none (by rw [List.length_range]; omega)]
    rfl
theorem filter_ix {α : Type} (l : List α) (d : α) (p : α → Bool) : l.filter p = ((List.range l.length).filter fun i => p (l.getD i d)).map fun i => l.getD i d := by
  have e : l.filter p = ((List.range l.length).map fun i => l.getD i d).filter p := by rw [← self_map l d]
  rw [e, List.filter_map]
  rfl
def tD (D : List Deed) (n : Nat) (st : Bool) : List Deed := match D[n]? with
  | some d => D.set n (d.1, d.2.1, d.2.2.1, st)
  | none => D
section
variable {o : Nat → List Nat} {Ss : List Str} {D : List Deed} {u v : Nat → List Nat} {h n : Nat} {st : Bool}
theorem turn_M : turnR (TM o Ss D u) n st = tD D n st := rfl
theorem turn_A {xs : List Str} {w : List Nat} : turnR (AL xs D w) n st = tD D n st := rfl
theorem tD_len : (tD D n st).length = D.length := by
  unfold tD
  split
  · rw [List.length_set]
  · rfl
theorem tD_get (i : Nat) : (tD D n st).getD i d0 = if i = n ∧ n < D.length then ((D.getD i d0).1, (D.getD i d0).2.1, (D.getD i d0).2.2.1, st) else D.getD i d0 := by
  unfold tD
  by_cases c : n < D.length
  · rw [List.getElem?_eq_getElem c]
    show (D.set n _).getD i d0 = _
    rw [List.getD_eq_getElem?_getD]
    by_cases e : i = n
    · rw [e, if_pos ⟨rfl, c⟩, List.getElem?_set_self c, List.getD_eq_getElem?_getD, List.getElem?_eq_getElem c]
      rfl
    · rw [if_neg (fun z => e z.1), List.getElem?_set_ne (fun z => e z.symm), ← List.getD_eq_getElem?_getD]
  · rw [List.getElem?_eq_none (by omega), if_neg (fun z => c z.2)]
theorem tD_3 (i : Nat) : ((tD D n st).getD i d0).1 = (D.getD i d0).1 ∧ ((tD D n st).getD i d0).2.1 = (D.getD i d0).2.1 ∧ ((tD D n st).getD i d0).2.2.1 = (D.getD i d0).2.2.1 := by
  rw [tD_get]
  split <;> exact ⟨rfl, rfl, rfl⟩
theorem getD_mem {i : Nat} (hi : i < D.length) : D.getD i d0 ∈ D := by
  rw [List.getD_eq_getElem?_getD, List.getElem?_eq_getElem hi]
  exact List.getElem_mem hi
theorem mem_ix {d : Deed} (hd : d ∈ D) : ∃ i, i < D.length ∧ D.getD i d0 = d := by
  obtain ⟨i, hi, e⟩ := List.getElem_of_mem hd
  exact ⟨i, hi, by rw [List.getD_eq_getElem?_getD, List.getElem?_eq_getElem hi]; exact e⟩
theorem tD_mem {d : Deed} (hd : d ∈ tD D n st) : ∃ e ∈ D, d.1 = e.1 ∧ d.2.1 = e.2.1 ∧ d.2.2.1 = e.2.2.1 := by
  obtain ⟨i, hi, e⟩ := mem_ix hd
  rw [tD_len] at hi
  obtain ⟨a, b, c⟩ := tD_3 (D := D) (n := n) (st := st) i
  rw [e] at a b c
  exact ⟨_, getD_mem hi, a, b, c⟩
theorem tD_mem' {d : Deed} (hd : d ∈ D) : ∃ e ∈ tD D n st, d.1 = e.1 ∧ d.2.1 = e.2.1 ∧ d.2.2.1 = e.2.2.1 := by
  obtain ⟨i, hi, e⟩ := mem_ix hd
  obtain ⟨a, b, c⟩ := tD_3 (D := D) (n := n) (st := st) i
  rw [e] at a b c
  exact ⟨_, getD_mem (by rw [tD_len]; exact hi), a.symm, b.symm, c.symm⟩
theorem Two.turn (t : Two o Ss D) : Two o Ss (tD D n st) := by
  refine ⟨t.mr, t.nd, t.dj, fun d hd => ?_, t.sm, fun d hd => ?_, fun k m hm => ?_, t.ol, t.lS, by rw [tD_len]; exact t.lD⟩
  · obtain ⟨e, he, a, b, c⟩ := tD_mem hd
    rw [a, c]
    exact t.dd e he
  · obtain ⟨e, he, a, b, c⟩ := tD_mem hd
    rw [b]
    exact t.ds e he
  · obtain ⟨d, hd, a, b, c⟩ := t.pd k m hm
    obtain ⟨e, he, x, y, z⟩ := tD_mem' (n := n) (st := st) hd
    exact ⟨e, he, by rw [← x]; exact a, by rw [← z]; exact b, by rw [← y]; exact c⟩
theorem dsO_dpos : dsO o D h = (dpos D h).map fun i => cvO (o h) (D.getD i d0) := by
  unfold dsO dpos
  rw [filter_ix D d0, List.map_map]
  rfl
theorem dpos_nd : (dpos D h).Nodup := List.Nodup.sublist List.filter_sublist List.nodup_range
theorem dpos_lt {i : Nat} (hi : i ∈ dpos D h) : i < D.length ∧ (D.getD i d0).1 = h := by
  obtain ⟨a, b⟩ := List.mem_filter.mp hi
  exact ⟨List.mem_range.mp a, of_decide_eq_true b⟩
theorem dsO_len : (dsO o D h).length = (dpos D h).length := by rw [dsO_dpos, List.length_map]
theorem dpos_turn : dpos (tD D n st) h = dpos D h := by
  unfold dpos
  rw [tD_len]
  exact List.filter_congr fun i _ => by rw [(tD_3 i).1]
theorem dsO_turn {i : Nat} (hi : (dpos D h)[i]? = some n) : dsO o (tD D n st) h = tD (dsO o D h) i st := by
  obtain ⟨ln, hn⟩ := dpos_lt (List.mem_of_getElem? hi)
  have hil := (List.getElem?_eq_some_iff.mp hi).1
  have e1 : (dsO o D h)[i]? = some (cvO (o h) (D.getD n d0)) := by rw [dsO_dpos, List.getElem?_map, hi]; rfl
  have e2 : tD (dsO o D h) i st = (dsO o D h).set i ((cvO (o h) (D.getD n d0)).1, (cvO (o h) (D.getD n d0)).2.1, (cvO (o h) (D.getD n d0)).2.2.1, st) := by unfold tD; rw [e1]
  rw [e2, dsO_dpos, dsO_dpos, dpos_turn]
  apply List.ext_getElem?
  intro j
  by_cases c : j = i
  · rw [c, List.getElem?_set_self (by rw [List.length_map]; exact hil), List.getElem?_map, hi]
    show some (cvO (o h) ((tD D n st).getD n d0)) = _
    rw [tD_get, if_pos ⟨rfl, ln⟩]
    rfl
  · rw [List.getElem?_set_ne (fun z => c z.symm), List.getElem?_map, List.getElem?_map]
    cases e : (dpos D h)[j]? with
    | none => rfl
    | some m =>
      show some (cvO (o h) ((tD D n st).getD m d0)) = some _
      have nm : m ≠ n := fun z => c (nodup_inj dpos_nd (z ▸ e) hi)
      rw [tD_get, if_neg (fun z => nm z.1)]
theorem dsO_turn' (hn : (D.getD n d0).1 ≠ h) : dsO o (tD D n st) h = dsO o D h := by
  rw [dsO_dpos, dsO_dpos, dpos_turn]
  refine List.map_congr_left fun j hj => ?_
  have := (dpos_lt hj).2
  rw [tD_get, if_neg (fun z => hn (by rw [← z.1]; exact this))]
theorem st_O : stR D h D.length = (stR (dsO o D h) 0 (dsO o D h).length).map fun i => (dpos D h).getD i 0 := by
  have e1 : stR D h D.length = (dpos D h).filter fun i => (D.getD i d0).2.2.2 := by
    unfold stR dpos
    rw [List.filter_filter]
    exact List.filter_congr fun i _ => by rw [Bool.and_comm]
  rw [e1, filter_ix (dpos D h) 0, dsO_len]
  congr 1
  unfold stR
  refine List.filter_congr fun i hi => ?_
  have hl := List.mem_range.mp hi
  have e2 : (dsO o D h).getD i d0 = cvO (o h) (D.getD ((dpos D h).getD i 0) d0) := by
    rw [dsO_dpos, List.getD_eq_getElem?_getD, List.getElem?_map, List.getD_eq_getElem?_getD (l := dpos D h), List.getElem?_eq_getElem hl]
    rfl
  rw [e2]
  show _ = (decide ((0 : Nat) = 0) && _)
  rw [decide_eq_true rfl, Bool.true_and]
  rfl
theorem dpos_app (d : Deed) (k : Nat) : dpos (D ++ [d]) k = dpos D k ++ if d.1 = k then [D.length] else [] := by
  unfold dpos
  have el : (D ++ [d]).length = D.length + 1 := by rw [List.length_append]; rfl
  rw [el, List.range_succ, List.filter_append]
  congr 1
  · refine List.filter_congr fun i hi => ?_
    have hl := List.mem_range.mp hi
    rw [List.getD_eq_getElem?_getD, List.getElem?_append_left hl, ← List.getD_eq_getElem?_getD]
  · rw [List.filter_cons, List.getD_eq_getElem?_getD, List.getElem?_append_right (Nat.le_refl _), Nat.sub_self]
    show (if decide (d.1 = k) = true then _ else _) = _
    by_cases c : d.1 = k
    · rw [decide_eq_true c, if_pos rfl, if_pos c]
      rfl
    · rw [decide_eq_false c, if_neg Bool.false_ne_true, if_neg c]
      rfl
theorem dpos_old {d : Deed} {k i : Nat} (hi : i < (dpos D k).length) : (dpos (D ++ [d]) k).getD i 0 = (dpos D k).getD i 0 ∧ i < (dpos (D ++ [d]) k).length := by
  rw [dpos_app]
  refine ⟨?_, by rw [List.length_append]; omega⟩
  rw [List.getD_eq_getElem?_getD, List.getElem?_append_left hi, ← List.getD_eq_getElem?_getD]
/-! ### rubbed -/
abbrev dR (D : List Deed) (h m : Nat) : List Deed := D ++ [((h, ("" : Str), m, true) : Deed)]
theorem Two.rub (t : Two o Ss D) (h2 : h < 2) {m : Nat} (hm : m ∈ o h) (l2 : D.length ≤ 90) : Two o Ss (dR D h m) := by
  refine ⟨t.mr, t.nd, t.dj, fun d hd => ?_, t.sm, fun d hd => ?_, fun k x hx => ?_, t.ol, t.lS, by rw [List.length_append]; show D.length + 1 ≤ 100; omega⟩
  · rcases List.mem_append.mp hd with q | q
    · exact t.dd d q
    · rw [List.mem_singleton] at q
      rw [q]
      exact ⟨hm, h2⟩
  · rcases List.mem_append.mp hd with q | q
    · exact t.ds d q
    · rw [List.mem_singleton] at q
      rw [q]
      exact .inr rfl
  · obtain ⟨d, g1, g2⟩ := t.pd k x hx
    exact ⟨d, List.mem_append_left _ g1, g2⟩
theorem dsO_R (m k : Nat) : dsO o (dR D h m) k = if k = h then dsO o D h ++ [((0, ("" : Str), 1 + (o h).idxOf m, true) : Deed)] else dsO o D k := by
  unfold dsO
  rw [List.filter_append, List.map_append]
  by_cases c : k = h
  · subst c
    rw [if_pos rfl, List.filter_cons, if_pos (decide_eq_true rfl)]
    rfl
  · rw [if_neg c, List.filter_cons, if_neg (by rw [decide_eq_false (fun e => c e.symm)]; exact Bool.false_ne_true)]
    exact List.append_nil _
end
end TG

namespace TG
open PySem PySem.Spec PyProof.Rows L2 NdefX GenW Gx Lv
/-! ### a deed beside the other hand, and alone -/
structure Rel (N : Nat) (o : Nat → List Nat) (Ss : List Str) (D : List Deed) (u v : Nat → List Nat) : Prop where
  two : Two o Ss D
  un : ∀ h, h < 2 → u h = (v h).map fun i => (dpos D h).getD i 0
  vl : ∀ h, h < 2 → ∀ i ∈ v h, i < (dpos D h).length
  lS : Ss.length ≤ N
  lD : D.length ≤ N
  lv : ∀ h, h < 2 → (v h).length ≤ N
section
variable {N : Nat} {o : Nat → List Nat} {Ss : List Str} {D : List Deed} {u v : Nat → List Nat} {h : Nat}
theorem Rel.up (r : Rel N o Ss D u v) : Rel (N + 1) o Ss D u v := ⟨r.two, r.un, r.vl, Nat.le_succ_of_le r.lS, Nat.le_succ_of_le r.lD, fun h q => Nat.le_succ_of_le (r.lv h q)⟩
theorem dpos_getD {i : Nat} (hi : i < (dpos D h).length) : (dpos D h)[i]? = some ((dpos D h).getD i 0) := by rw [List.getD_eq_getElem?_getD, List.getElem?_eq_getElem hi]; rfl
theorem Rel.tokM (r : Rel N o Ss D u v) (hN : N ≤ 90) : TOk (TM o Ss D u) := tok_M r.two fun h q => by
  rw [r.un h q, List.length_map]
  refine ⟨by have := r.lv h q; omega, fun n hn => ?_⟩
  obtain ⟨i, hi, rfl⟩ := List.mem_map.mp hn
  exact (dpos_lt (List.mem_of_getElem? (dpos_getD (r.vl h q i hi)))).1
theorem Rel.tokA (r : Rel N o Ss D u v) (hN : N ≤ 90) (h2 : h < 2) : TOk (AL (xsO o Ss h) (dsO o D h) (v h)) := tok_A r.two ⟨by have := r.lv h h2; omega, fun i hi => by rw [dsO_len]; exact r.vl h h2 i hi⟩
theorem pgH (t : Two o Ss D) (h2 : h < 2) (p : PgOk (pageR (sgB Ss) (orB o) D)) : PgOk (rowsT (txO o Ss D h)) := by
  have hh : h = 0 ∨ h = 1 := by omega
  rcases hh with e | e <;> rw [e]
  · exact (pg_O t p).1
  · exact (pg_O t p).2
theorem und_M (h2 : h < 2) : (TM o Ss D u).undone.getD h [] = u h := by
  have hh : h = 0 ∨ h = 1 := by omega
  rcases hh with e | e <;> rw [e] <;> rfl
theorem near_pre {S : TSt} {A rest : List Nat} {s : Nat} (hs : S.spots.getD h 0 = s) (hl : hereR S = A ++ s :: rest) (hn : s ∉ A) (ne : A ≠ []) : nearR S h (-1) = A.getLast? := by
  have lp : 0 < A.length := List.length_pos_iff.mpr ne
  have ei : (hereR S).idxOf s = A.length := by
    rw [hl, List.idxOf_append, if_neg hn]
    simp [List.idxOf_cons]
  have ll : (hereR S).length = A.length + (rest.length + 1) := by rw [hl, List.length_append]; rfl
  unfold nearR
  rw [hs, ei, if_pos ⟨by omega, by omega⟩]
  have : (((A.length : Nat) : Int) + -1).toNat = A.length - 1 := by omega
  rw [this, hl, List.getElem?_append_left (by omega), List.getLast?_eq_getElem?]
theorem near_M (t : Two o Ss D) (h2 : h < 2) (ne : hereO o D h ≠ []) : nearR (TM o Ss D u) h (-1) = (hereO o D h).getLast? := by
  have e : hereR (TM o Ss D u) = hereO o D 0 ++ List.range 9 ++ hereO o D 1 ++ [9] := here_M t
  have lo : ∀ k m, m < 10 → m ∉ hereO o D k := fun k m hm z => by have := (t.mr k m (List.mem_filter.mp z).1).1; omega
  have hh : h = 0 ∨ h = 1 := by omega
  rcases hh with q | q <;> subst q
  · exact near_pre (s := 0) (rest := List.range' 1 8 ++ hereO o D 1 ++ [9]) rfl (by rw [e, List.append_assoc, List.append_assoc]; rfl) (lo 0 0 (by decide)) ne
  · rw [near_pre (h := 1) (s := 9) (A := hereO o D 0 ++ List.range 9 ++ hereO o D 1) (rest := []) rfl e (fun z => by
      rw [List.mem_append, List.mem_append, List.mem_range] at z
      rcases z with (z | z) | z
      · exact lo 0 9 (by decide) z
      · omega
      · exact lo 1 9 (by decide) z) (by simp [ne])]
    rw [List.getLast?_append]
    cases q : (hereO o D 1).getLast? with
    | none => exact absurd (List.getLast?_eq_none_iff.mp q) ne
    | some m => rfl
theorem near_A (t : Two o Ss D) (ne : hereO o D h ≠ []) {w : List Nat} : nearR (AL (xsO o Ss h) (dsO o D h) w) 0 (-1) = (hereO o D h).getLast?.map fun m => 1 + (o h).idxOf m := by
  have e : hereR (AL (xsO o Ss h) (dsO o D h) w) = (hereO o D h).map (fun m => 1 + (o h).idxOf m) ++ [0] := here_A t
  rw [near_pre (s := 0) (rest := []) rfl e (fun z => by
    obtain ⟨m, _, q⟩ := List.mem_map.mp z
    omega) (by simp [ne]), List.getLast?_map]
/-- what comes of a deed, beside and alone -/
def StepR (N : Nat) (o : Nat → List Nat) (Ss : List Str) (D : List Deed) (u v : Nat → List Nat) (h : Nat) (w : What) : Prop :=
  ∃ (val : V) (o' : Nat → List Nat) (Ss' : List Str) (D' : List Deed) (u' v' : Nat → List Nat), stepT (TM o Ss D u) h w = some (val, TM o' Ss' D' u') ∧ stepT (AL (xsO o Ss h) (dsO o D h) (v h)) 0 w = some (val, AL (xsO o' Ss' h) (dsO o' D' h) (v' h)) ∧ Rel (N + 1) o' Ss' D' u' v' ∧
    (∀ k, k ≠ h → xsO o' Ss' k = xsO o Ss k ∧ dsO o' D' k = dsO o D k ∧ v' k = v k) ∧ (PgOk (pageR (sgB Ss) (orB o) D) → PgOk (pageR (sgB Ss') (orB o') D')) ∧ (val = .non ∨ ∃ b, val = .bl b)
theorem step_press (r : Rel N o Ss D u v) (hN : N ≤ 89) (h2 : h < 2) {s : Str} (hs : MarkOk s) : preT (TM o Ss D u) h (.press s) ∧ preT (AL (xsO o Ss h) (dsO o D h) (v h)) 0 (.press s) ∧ (stepT (TM o Ss D u) h (.press s) = none ∨ StepR N o Ss D u v h (.press s)) := by
  have t := r.two
  have l1 : Ss.length ≤ 90 := by have := r.lS; omega
  have l2 : D.length ≤ 90 := by have := r.lD; omega
  obtain ⟨pm, em⟩ := pre_press_M (u := u) t h2 hs l1 l2
  obtain ⟨pa, pp, ea⟩ := press_A (w := v h) t h2 hs l1 l2
  refine ⟨⟨hs, pm⟩, ⟨hs, pp⟩, ?_⟩
  by_cases g : PgOk (pageR (sgB (Ss ++ [s])) (orB (oP o Ss h)) (dP D Ss h s))
  · refine .inr ⟨.non, oP o Ss h, Ss ++ [s], dP D Ss h s, fset u h [], fset v h [], ?_, ?_, ⟨t.press h2 hs l1 l2, fun k k2 => ?_, fun k k2 i hi => ?_, ?_, ?_, fun k k2 => ?_⟩, fun k c => ?_, fun _ => g, .inl rfl⟩
    · have : stepT (TM o Ss D u) h (.press s) = some (.non, pressR (TM o Ss D u) h s) := by unfold stepT; exact if_pos (by rw [em]; exact g)
      rw [this, press_M t h2 hs l1 l2]
    · have : stepT (AL (xsO o Ss h) (dsO o D h) (v h)) 0 (.press s) = some (.non, pressR (AL (xsO o Ss h) (dsO o D h) (v h)) 0 s) := by unfold stepT; exact if_pos (by rw [ea]; exact pgH (t.press h2 hs l1 l2) h2 g)
      rw [this, pa, fset_same]
    · by_cases c : k = h
      · subst c
        rw [fset_same, fset_same]
        rfl
      · rw [fset_ne c, fset_ne c, r.un k k2]
        exact List.map_congr_left fun i hi => (dpos_old (r.vl k k2 i hi)).1.symm
    · by_cases c : k = h
      · subst c
        rw [fset_same] at hi
        cases hi
      · rw [fset_ne c] at hi
        exact (dpos_old (r.vl k k2 i hi)).2
    · rw [List.length_append]
      have := r.lS
      show Ss.length + 1 ≤ N + 1
      omega
    · rw [List.length_append]
      have := r.lD
      show D.length + 1 ≤ N + 1
      omega
    · by_cases c : k = h
      · subst c
        rw [fset_same]
        exact Nat.zero_le _
      · rw [fset_ne c]
        exact Nat.le_succ_of_le (r.lv k k2)
    · have e1 := xsO_P (h := h) (s := s) t k
      have e2 := dsO_P (h := h) (s := s) t k
      rw [if_neg c] at e1 e2
      exact ⟨e1, e2, fset_ne c⟩
  · refine .inl ?_
    unfold stepT
    exact if_neg (by rw [em]; exact g)
theorem step_rub (r : Rel N o Ss D u v) (hN : N ≤ 89) (h2 : h < 2) (ne : hereO o D h ≠ []) : preT (TM o Ss D u) h .rub ∧ preT (AL (xsO o Ss h) (dsO o D h) (v h)) 0 .rub ∧ (stepT (TM o Ss D u) h .rub = none ∨ StepR N o Ss D u v h .rub) := by
  have t := r.two
  have l2 : D.length ≤ 90 := by have := r.lD; omega
  have nm := near_M (u := u) t h2 ne
  have na := near_A (w := v h) t ne
  obtain ⟨m, hm⟩ : ∃ m, (hereO o D h).getLast? = some m := by
    cases e : (hereO o D h).getLast? with
    | none => exact absurd (List.getLast?_eq_none_iff.mp e) ne
    | some m => exact ⟨m, rfl⟩
  have mo : m ∈ o h := (List.mem_filter.mp (List.mem_of_getLast? hm)).1
  rw [hm] at nm na
  have t' := t.rub h2 mo l2
  have ed := dsO_R (o := o) (D := D) (h := h) m h
  rw [if_pos rfl] at ed
  have em : (AL (xsO o Ss h) (dsO o D h) (v h)).deeds ++ [((0, ("" : Str), 1 + (o h).idxOf m, true) : Deed)] = dsO o (dR D h m) h := ed.symm
  refine ⟨⟨m, nm, set_M t' rfl⟩, ⟨_, na, by rw [em]; exact set_A t' rfl⟩, ?_⟩
  by_cases g : PgOk (pageR (sgB Ss) (orB o) (dR D h m))
  · refine .inr ⟨.non, o, Ss, dR D h m, fset u h [], fset v h [], ?_, ?_, ⟨t', fun k k2 => ?_, fun k k2 i hi => ?_, Nat.le_succ_of_le r.lS, ?_, fun k k2 => ?_⟩, fun k c => ?_, fun _ => g, .inl rfl⟩
    · have : stepT (TM o Ss D u) h .rub = some (.non, rubR (TM o Ss D u) h m) := by unfold stepT; rw [nm]; exact if_pos g
      rw [this]
      unfold rubR
      have e2 : settleR (TM o Ss D u) (TM o Ss D u).signs (TM o Ss D u).order ((TM o Ss D u).deeds ++ [((h, ("" : Str), m, true) : Deed)]) = _ := settle_M t' (S := TM o Ss D u) rfl
      rw [e2]
      show some (V.non, (⟨sgB Ss, orB o, _, _, [0, 9], [u 0, u 1].set h []⟩ : TSt)) = _
      rw [set2 h2]
      rfl
    · have : stepT (AL (xsO o Ss h) (dsO o D h) (v h)) 0 .rub = some (.non, rubR (AL (xsO o Ss h) (dsO o D h) (v h)) 0 (1 + (o h).idxOf m)) := by
        unfold stepT
        rw [na]
        refine if_pos ?_
        rw [em]
        have e3 : pageR (AL (xsO o Ss h) (dsO o D h) (v h)).signs (AL (xsO o Ss h) (dsO o D h) (v h)).order (dsO o (dR D h m) h) = _ := rows_A t'
        rw [e3]
        exact pgH t' h2 g
      rw [this]
      unfold rubR
      rw [em]
      have e2 : settleR (AL (xsO o Ss h) (dsO o D h) (v h)) (AL (xsO o Ss h) (dsO o D h) (v h)).signs (AL (xsO o Ss h) (dsO o D h) (v h)).order (dsO o (dR D h m) h) = _ := settle_A t' (S := AL (xsO o Ss h) (dsO o D h) (v h)) rfl
      rw [e2, fset_same]
      rfl
    · by_cases c : k = h
      · subst c
        rw [fset_same, fset_same]
        rfl
      · rw [fset_ne c, fset_ne c, r.un k k2]
        exact List.map_congr_left fun i hi => (dpos_old (r.vl k k2 i hi)).1.symm
    · by_cases c : k = h
      · subst c
        rw [fset_same] at hi
        cases hi
      · rw [fset_ne c] at hi
        exact (dpos_old (r.vl k k2 i hi)).2
    · rw [List.length_append]
      have := r.lD
      show D.length + 1 ≤ N + 1
      omega
    · by_cases c : k = h
      · subst c
        rw [fset_same]
        exact Nat.zero_le _
      · rw [fset_ne c]
        exact Nat.le_succ_of_le (r.lv k k2)
    · have e2 := dsO_R (o := o) (D := D) (h := h) m k
      rw [if_neg c] at e2
      exact ⟨rfl, e2, fset_ne c⟩
  · refine .inl ?_
    unfold stepT
    rw [nm]
    exact if_neg g
theorem step_same (r : Rel N o Ss D u v) {w : What} (e1 : stepT (TM o Ss D u) h w = some (.bl false, TM o Ss D u)) (e2 : stepT (AL (xsO o Ss h) (dsO o D h) (v h)) 0 w = some (.bl false, AL (xsO o Ss h) (dsO o D h) (v h))) : StepR N o Ss D u v h w :=
  ⟨.bl false, o, Ss, D, u, v, e1, e2, r.up, fun k _ => ⟨rfl, rfl, rfl⟩, fun p => p, .inr ⟨_, rfl⟩⟩
/-- a deed turned -/
theorem step_turn (r : Rel N o Ss D u v) (h2 : h < 2) {i n : Nat} {st : Bool} (hi : (dpos D h)[i]? = some n) (x : List Nat) (hx : ∀ j ∈ x, j < (dpos D h).length) (lx : x.length ≤ N + 1) : Rel (N + 1) o Ss (tD D n st) (fset u h (x.map fun i => (dpos D h).getD i 0)) (fset v h x) ∧
    ∀ k, k ≠ h → xsO o Ss k = xsO o Ss k ∧ dsO o (tD D n st) k = dsO o D k ∧ fset v h x k = v k := by
  refine ⟨⟨r.two.turn, fun k k2 => ?_, fun k k2 j hj => ?_, Nat.le_succ_of_le r.lS, by rw [tD_len]; exact Nat.le_succ_of_le r.lD, fun k k2 => ?_⟩, fun k c => ⟨rfl, dsO_turn' ?_, fset_ne c⟩⟩
  · rw [dpos_turn]
    by_cases c : k = h
    · subst c
      rw [fset_same, fset_same]
    · rw [fset_ne c, fset_ne c, r.un k k2]
  · rw [dpos_turn]
    by_cases c : k = h
    · subst c
      rw [fset_same] at hj
      exact hx j hj
    · rw [fset_ne c] at hj
      exact r.vl k k2 j hj
  · by_cases c : k = h
    · subst c
      rw [fset_same]
      exact lx
    · rw [fset_ne c]
      exact Nat.le_succ_of_le (r.lv k k2)
  · rw [(dpos_lt (List.mem_of_getElem? hi)).2]
    exact fun e => c e.symm
theorem settle_tM (t : Two o Ss D) (h2 : h < 2) {n : Nat} {st : Bool} (x : List Nat) : ({ settleR (TM o Ss D u) (TM o Ss D u).signs (TM o Ss D u).order (tD D n st) with undone := (TM o Ss D u).undone.set h x } : TSt) = TM o Ss (tD D n st) (fset u h x) := by
  have e2 : settleR (TM o Ss D u) (TM o Ss D u).signs (TM o Ss D u).order (tD D n st) = _ := settle_M (t.turn (n := n) (st := st)) (S := TM o Ss D u) rfl
  rw [e2]
  show (⟨sgB Ss, orB o, _, _, [0, 9], [u 0, u 1].set h x⟩ : TSt) = _
  rw [set2 h2]
  rfl
theorem settle_tA (t : Two o Ss D) {i n : Nat} {st : Bool} (hi : (dpos D h)[i]? = some n) {w : List Nat} (x : List Nat) : ({ settleR (AL (xsO o Ss h) (dsO o D h) w) (AL (xsO o Ss h) (dsO o D h) w).signs (AL (xsO o Ss h) (dsO o D h) w).order (tD (dsO o D h) i st) with undone := (AL (xsO o Ss h) (dsO o D h) w).undone.set 0 x } : TSt) = AL (xsO o Ss h) (dsO o (tD D n st) h) x := by
  rw [← dsO_turn hi]
  have e2 : settleR (AL (xsO o Ss h) (dsO o D h) w) (AL (xsO o Ss h) (dsO o D h) w).signs (AL (xsO o Ss h) (dsO o D h) w).order (dsO o (tD D n st) h) = _ := settle_A (h := h) (t.turn (n := n) (st := st)) (S := AL (xsO o Ss h) (dsO o D h) w) rfl
  rw [e2]
  rfl
theorem pg_tA (t : Two o Ss D) (h2 : h < 2) {i n : Nat} {st : Bool} (hi : (dpos D h)[i]? = some n) {w : List Nat} (g : PgOk (pageR (sgB Ss) (orB o) (tD D n st))) : PgOk (pageR (AL (xsO o Ss h) (dsO o D h) w).signs (AL (xsO o Ss h) (dsO o D h) w).order (tD (dsO o D h) i st)) := by
  rw [← dsO_turn hi]
  have e3 : pageR (AL (xsO o Ss h) (dsO o D h) w).signs (AL (xsO o Ss h) (dsO o D h) w).order (dsO o (tD D n st) h) = _ := rows_A (h := h) (t.turn (n := n) (st := st))
  rw [e3]
  exact pgH t.turn h2 g
theorem pre_tM (t : Two o Ss D) (n : Nat) (st : Bool) : SetPre (TM o Ss D u) (TM o Ss D u).signs (TM o Ss D u).order (turnR (TM o Ss D u) n st) := set_M (t.turn (n := n) (st := st)) rfl
theorem pre_tA (t : Two o Ss D) {i n : Nat} (st : Bool) (hi : (dpos D h)[i]? = some n) {w : List Nat} : SetPre (AL (xsO o Ss h) (dsO o D h) w) (AL (xsO o Ss h) (dsO o D h) w).signs (AL (xsO o Ss h) (dsO o D h) w).order (turnR (AL (xsO o Ss h) (dsO o D h) w) i st) := by
  have e : turnR (AL (xsO o Ss h) (dsO o D h) w) i st = dsO o (tD D n st) h := (dsO_turn hi).symm
  rw [e]
  exact set_A (t.turn (n := n) (st := st)) rfl
theorem step_back (r : Rel N o Ss D u v) (h2 : h < 2) : preT (TM o Ss D u) h .back ∧ preT (AL (xsO o Ss h) (dsO o D h) (v h)) 0 .back ∧ (stepT (TM o Ss D u) h .back = none ∨ StepR N o Ss D u v h .back) := by
  have t := r.two
  have es := st_O (o := o) (D := D) (h := h)
  have lt : ∀ i ∈ stR (dsO o D h) 0 (dsO o D h).length, i < (dpos D h).length := fun i hi => by rw [← dsO_len (o := o)]; exact stR_lt hi
  refine ⟨fun n _ => pre_tM t n false, fun i hi => pre_tA t false (dpos_getD (lt i hi)), ?_⟩
  have em : (stR (TM o Ss D u).deeds h (TM o Ss D u).deeds.length).getLast? = (stR (dsO o D h) 0 (dsO o D h).length).getLast?.map fun i => (dpos D h).getD i 0 := by
    show (stR D h D.length).getLast? = _
    rw [es, List.getLast?_map]
  cases ea : (stR (dsO o D h) 0 (dsO o D h).length).getLast? with
  | none =>
    rw [ea] at em
    have ea' : (stR (AL (xsO o Ss h) (dsO o D h) (v h)).deeds 0 (AL (xsO o Ss h) (dsO o D h) (v h)).deeds.length).getLast? = none := ea
    refine .inr (step_same r ?_ ?_)
    · unfold stepT; rw [em]; rfl
    · unfold stepT; rw [ea']
  | some i =>
    rw [ea] at em
    have ea' : (stR (AL (xsO o Ss h) (dsO o D h) (v h)).deeds 0 (AL (xsO o Ss h) (dsO o D h) (v h)).deeds.length).getLast? = some i := ea
    have li := lt i (List.mem_of_getLast? ea)
    have hi := dpos_getD li
    have em : (stR (TM o Ss D u).deeds h (TM o Ss D u).deeds.length).getLast? = some ((dpos D h).getD i 0) := em
    generalize (dpos D h).getD i 0 = n at em hi
    by_cases g : PgOk (pageR (sgB Ss) (orB o) (tD D n false))
    · have lv := r.lv h h2
      obtain ⟨R, K⟩ := step_turn (st := false) r h2 hi (v h ++ [i]) (fun j hj => by
        rcases List.mem_append.mp hj with q | q
        · exact r.vl h h2 j q
        · rw [List.mem_singleton] at q
          rw [q]; exact li) (by rw [List.length_append]; show (v h).length + 1 ≤ N + 1; omega)
      have eu : (v h ++ [i]).map (fun i => (dpos D h).getD i 0) = u h ++ [n] := by
        rw [List.map_append, ← r.un h h2]
        congr 1
        show [(dpos D h).getD i 0] = [n]
        rw [List.getD_eq_getElem?_getD, hi]
        rfl
      rw [eu] at R
      refine .inr ⟨.bl true, o, Ss, tD D n false, fset u h (u h ++ [n]), fset v h (v h ++ [i]), ?_, ?_, R, K, fun _ => g, .inr ⟨_, rfl⟩⟩
      · have e1 : stepT (TM o Ss D u) h .back = some (.bl true, (backR (TM o Ss D u) h).2) := by unfold stepT; rw [em]; exact if_pos g
        rw [e1]
        unfold backR
        rw [em, und_M h2]
        show some (V.bl true, ({ settleR (TM o Ss D u) (TM o Ss D u).signs (TM o Ss D u).order (tD D n false) with undone := (TM o Ss D u).undone.set h (u h ++ [n]) } : TSt)) = _
        rw [settle_tM t h2]
      · have e1 : stepT (AL (xsO o Ss h) (dsO o D h) (v h)) 0 .back = some (.bl true, (backR (AL (xsO o Ss h) (dsO o D h) (v h)) 0).2) := by unfold stepT; rw [ea']; exact if_pos (pg_tA t h2 hi g)
        rw [e1]
        unfold backR
        rw [ea']
        show some (V.bl true, ({ settleR (AL (xsO o Ss h) (dsO o D h) (v h)) (AL (xsO o Ss h) (dsO o D h) (v h)).signs (AL (xsO o Ss h) (dsO o D h) (v h)).order (tD (dsO o D h) i false) with undone := (AL (xsO o Ss h) (dsO o D h) (v h)).undone.set 0 (v h ++ [i]) } : TSt)) = _
        rw [settle_tA t hi, fset_same]
    · refine .inl ?_
      unfold stepT
      rw [em]
      exact if_neg g
theorem step_again (r : Rel N o Ss D u v) (h2 : h < 2) : preT (TM o Ss D u) h .again ∧ preT (AL (xsO o Ss h) (dsO o D h) (v h)) 0 .again ∧ (stepT (TM o Ss D u) h .again = none ∨ StepR N o Ss D u v h .again) := by
  have t := r.two
  refine ⟨fun n _ => pre_tM t n true, fun i hi => pre_tA t true (dpos_getD (r.vl h h2 i hi)), ?_⟩
  have em : ((TM o Ss D u).undone.getD h []).getLast? = (v h).getLast?.map fun i => (dpos D h).getD i 0 := by
    rw [und_M h2, r.un h h2, List.getLast?_map]
  cases ea : (v h).getLast? with
  | none =>
    rw [ea] at em
    have ea' : ((AL (xsO o Ss h) (dsO o D h) (v h)).undone.getD 0 []).getLast? = none := ea
    refine .inr (step_same r ?_ ?_)
    · unfold stepT; rw [em]; rfl
    · unfold stepT; rw [ea']
  | some i =>
    rw [ea] at em
    have ea' : ((AL (xsO o Ss h) (dsO o D h) (v h)).undone.getD 0 []).getLast? = some i := ea
    have li := r.vl h h2 i (List.mem_of_getLast? ea)
    have hi := dpos_getD li
    have em : ((TM o Ss D u).undone.getD h []).getLast? = some ((dpos D h).getD i 0) := em
    generalize (dpos D h).getD i 0 = n at em hi
    by_cases g : PgOk (pageR (sgB Ss) (orB o) (tD D n true))
    · have lv := r.lv h h2
      obtain ⟨R, K⟩ := step_turn (st := true) r h2 hi (v h).dropLast (fun j hj => r.vl h h2 j (List.dropLast_subset _ hj)) (by rw [List.length_dropLast]; omega)
      have eu : (v h).dropLast.map (fun i => (dpos D h).getD i 0) = (u h).dropLast := by rw [r.un h h2, List.map_dropLast]
      rw [eu] at R
      refine .inr ⟨.bl true, o, Ss, tD D n true, fset u h (u h).dropLast, fset v h (v h).dropLast, ?_, ?_, R, K, fun _ => g, .inr ⟨_, rfl⟩⟩
      · have e1 : stepT (TM o Ss D u) h .again = some (.bl true, (againR (TM o Ss D u) h).2) := by unfold stepT; rw [em]; exact if_pos g
        rw [e1]
        unfold againR
        rw [em, und_M h2]
        show some (V.bl true, ({ settleR (TM o Ss D u) (TM o Ss D u).signs (TM o Ss D u).order (tD D n true) with undone := (TM o Ss D u).undone.set h (u h).dropLast } : TSt)) = _
        rw [settle_tM t h2]
      · have e1 : stepT (AL (xsO o Ss h) (dsO o D h) (v h)) 0 .again = some (.bl true, (againR (AL (xsO o Ss h) (dsO o D h) (v h)) 0).2) := by unfold stepT; rw [ea']; exact if_pos (pg_tA t h2 hi g)
        rw [e1]
        unfold againR
        rw [ea']
        show some (V.bl true, ({ settleR (AL (xsO o Ss h) (dsO o D h) (v h)) (AL (xsO o Ss h) (dsO o D h) (v h)).signs (AL (xsO o Ss h) (dsO o D h) (v h)).order (tD (dsO o D h) i true) with undone := (AL (xsO o Ss h) (dsO o D h) (v h)).undone.set 0 (v h).dropLast } : TSt)) = _
        rw [settle_tA t hi, fset_same]
    · refine .inl ?_
      unfold stepT
      rw [em]
      exact if_neg g
theorem step_all (r : Rel N o Ss D u v) (hN : N ≤ 89) (h2 : h < 2) (w : What) (hw : ∀ s, w = .press s → MarkOk s) (hr : w = .rub → hereO o D h ≠ []) : preT (TM o Ss D u) h w ∧ preT (AL (xsO o Ss h) (dsO o D h) (v h)) 0 w ∧ (stepT (TM o Ss D u) h w = none ∨ StepR N o Ss D u v h w) := by
  cases w with
  | press s => exact step_press r hN h2 (hw s rfl)
  | rub => exact step_rub r hN h2 (hr rfl)
  | back => exact step_back r h2
  | again => exact step_again r h2
end
end TG

namespace TG
open PySem PySem.Spec PyProof.Rows L2 NdefX GenW Gx Lv Dl
/-! ### the law's own lambda -/
def whLam : Stmt → LamT
  | .For _ _ [_, .While _ (.Assign _ (.Call _ [e] _ _) _ :: _) _ _] _ _ => lamOf e
  | _ => lam00
abbrev lamL : LamT := whLam (stAt (defBody s_law) 7)
abbrev qL : Str := ("law" : Str) ++ ".<locals>." ++ "<lambda>"
theorem sc_ll : NScope cap2 [] cap2 lamL.2.2 := nscope_by (by decide +kernel)
section
variable {P : Program} {w : World} {K : PySem.W.Frag} {mg : Str → Option Value} {base : Heap} {cs : List (Addr × Addr)} {B C G : Addr}
theorem lok_l {q : Str} {c' f g : Addr} {fdg : FuncData} {lc : List (Str × Addr)} {sp : Sp} (X : TabC K B) (M : Meth K B "back" g) (G : FnOk P w K mg base (L2.CX P w) 13 g fdg ["self", "hand"] sp) (bd : Binds K fdg ["self", "hand"] []) :
    LamW P w K mg base 14 f (HfL f ⟨"<lambda>", q, lamL.1, [], lamL.2.2, lc, c'⟩ lamL.2.1) (spLam2 (B := B) sp ⟨"<lambda>", q, lamL.1, [], lamL.2.2, lc, c'⟩) := by
  refine lamw_l (lokx_of (N := cap2) (fr := cap2) sc_ll (fun pm ctv => rfl) fun A outer s H Q E hr h => ?_)
  obtain ⟨_, tb, h, cl, dx, fs, hC, hob, l1, l2, l3, hsp⟩ := h
  refine ⟨[some (.ref tb), some (.int (h : Nat))], cl, _, hC, pe_methS (pv 0) X.cls M G hr bd (fun σ => passAt (takes_of rfl rfl rfl rfl) σ) (pa_cons (pv 1) pa_nil), ?_⟩
  exact ⟨_, rfl, tb, dx, fs, rfl, hob, l2, _, rfl, hsp⟩
theorem could4 {cells : List (Str × Addr)} {N : List Str} {σ : L2.St} {cl : List (Addr × Obj)} {H : Hp} {f c' tb : Addr} {h : Nat} {a : TA} {S : TSt} {lc : List (Str × Addr)} {msp : Sp} {Hf : Hp → Prop} {r : Option (V × TSt)} {Q : VK} {E : XK} {qn : Str} {it ih : Nat}
    (T : ToldC cells N cap2 σ cl) (un : ∀ c o, cl.lookup c = some o → H c = none) (hF : lc = cloFrom cells lamL.2.2.names []) (hN : N[it]? = some ("_law_table" : Str)) (hN1 : N[ih]? = some ("_law_hand" : Str)) (hσ : σ[it]? = some (some (.ref tb))) (hσ1 : σ[ih]? = some (some (.int (h : Nat))))
    (hf : Hf (addC H cl)) (L : LamW P w K mg base 14 f Hf (spLam2 (B := B) msp ⟨"<lambda>", qn, lamL.1, [], lamL.2.2, lc, c'⟩)) (hD : TabD B H tb a S) (up : PySem.W.exmOne K (.ref C) (.ref G) = some true)
    (run : ∀ (Z : VK) (E' : XK), (∀ v, r = some v → Went cs B H tb a v.2 fun H' => Z v.1 H') → (r = none → ∀ H', Ex cs H H' → E' (.ref C) none H') → msp [.ref tb, .int (h : Nat)] H Z E')
    (k : TriedQ cs B tb a r cl H Q) : spCould P w K mg base G 14 [.ref f] (addC H cl) Q E := by
  refine ⟨f, Hf, _, rfl, hf, L, fun Z E2 hZ hE => ?_⟩
  refine ⟨rfl, tb, h, cl, a.dx, a.fs, caught_of T hF (fun y hy => sc_ll.free (y, .free) hy rfl) (fun y hy => PySem.mem_of_lookup (sc_ll.frk y hy)) (fun y hy => hy) rfl (fun c o q => addC_in q) (fun i y v q1 q2 => ?_), by rw [del_add un]; exact hD.ob, rfl, rfl, rfl, ?_⟩
  · match i, q1, q2 with
    | 0, q1, q2 =>
      cases q1
      cases q2
      exact ⟨it, hN, hσ⟩
    | 1, q1, q2 =>
      cases q1
      cases q2
      exact ⟨ih, hN1, hσ1⟩
    | i + 2, q1, _ => simp at q1
  rw [del_add un]
  exact run _ _ (fun v e a' H' x1 x2 x3 x4 x5 hu => hZ _ _ (k.1 v e a' H' x1 x2 x3 x4 x5 hu)) fun e H' x hu => hE _ _ up (k.2 e H' x hu)
end
/-! ### three tables -/
section
variable {cs : List (Addr × Addr)} {H H' : Hp} {A : Addr → Prop} {b l : Addr}
theorem kb_kn (x : KB b l H H') : KN cs (fun c => c = b ∨ c = l) H H' := fun c o h _ n => x c o h (fun z => n (.inl z)) fun z => n (.inr z)
theorem box_mobT (h : BoxAt H b l) : Mob H (fun c => c = b ∨ c = l) := by
  obtain ⟨ns, s1, e1, e2, _⟩ := h
  exact fun c z => .inl (z.elim (fun e => e ▸ ⟨_, e1⟩) fun e => e ▸ ⟨_, e2⟩)
theorem tabs_km (x : KB b l H H') (h : BoxAt H b l) (t : Tabs cs H) : Tabs cs H' := fun r hr => by
  obtain ⟨ps, h1, h2⟩ := t r hr
  have m := box_mobT h
  refine ⟨ps, x _ _ h1 (fun z => ?_) (fun z => ?_), h2⟩
  · rcases m r.2 (.inl z) with ⟨us, e⟩ | ⟨C, dx, fs, e⟩ <;> rw [h1] at e <;> cases e
  · rcases m r.2 (.inr z) with ⟨us, e⟩ | ⟨C, dx, fs, e⟩ <;> rw [h1] at e <;> cases e
theorem box_kn (h : BoxAt H b l) (x : KN cs A H H') (nb : ¬ A b) (nl : ¬ A l) : BoxAt H' b l := by
  obtain ⟨ns, s1, e1, e2, e3⟩ := h
  exact ⟨ns, s1, x _ _ e1 (.inl fun ps z => by cases z) nb, x _ _ e2 (.inl fun ps z => by cases z) nl, e3⟩
theorem box_exT (h : BoxAt H b l) (x : Ex cs H H') : BoxAt H' b l := box_kn (cs := cs) (A := fun _ => False) h (fun c u h n _ => x.any h n) (fun z => z) (fun z => z)
theorem mob_some (m : Mob H A) {c : Addr} (h : A c) : H c ≠ none := fun e => by
  rcases m c h with ⟨_, w⟩ | ⟨_, _, _, w⟩ <;> rw [e] at w <;> cases w
end
structure S3 (cs : List (Addr × Addr)) (B p1 p2 b l al : Addr) (ta : Nat → Addr) (aa : Nat → TA) (Sa : Nat → TSt) (H : Hp) : Prop where
  box : BoxAt H b l
  tab : ∀ i, i < 3 → TabD B H (ta i) (aa i) (Sa i)
  tbs : Tabs cs H
  l1 : LamX.TabS H p1 qD
  l2 : LamX.TabS H p2 qL
  als : H al = some (.lst [.ref (ta 0), .ref (ta 1)])
  dis : ∀ i j, i < 3 → j < 3 → i ≠ j → ∀ c, ownT (ta i) (aa i) c → ¬ ownT (ta j) (aa j) c
  dbl : ∀ i, i < 3 → ∀ c, ownT (ta i) (aa i) c → c ≠ b ∧ c ≠ l ∧ c ≠ al
  dt : al ≠ b ∧ al ≠ l
section
variable {cs : List (Addr × Addr)} {B p1 p2 b l al : Addr} {ta : Nat → Addr} {aa : Nat → TA} {Sa Sb : Nat → TSt} {H H' : Hp} {a' : TA} {S' : TSt} {i : Nat}
theorem S3.cong (o : S3 cs B p1 p2 b l al ta aa Sa H) (e : ∀ i, i < 3 → Sa i = Sb i) : S3 cs B p1 p2 b l al ta aa Sb H :=
  { o with tab := fun i hi => by rw [← e i hi]; exact o.tab i hi }
theorem apart1 (n2 : ∀ r ∈ cs, r.2 ≠ p2) (nn : p1 ≠ p2) : ∀ r ∈ ((p1, p1) :: cs), r.2 ≠ p2 := fun r hr => by
  rcases List.mem_cons.mp hr with e | e
  · rw [e]; exact nn
  · exact n2 r e
theorem S3.goes (o : S3 cs B p1 p2 b l al ta aa Sa H) (n2 : ∀ r ∈ cs, r.2 ≠ p2) (nn : p1 ≠ p2) (hi : i < 3) (k : KN ((p1, p1) :: cs) (ownT (ta i) (aa i)) H H') (ow : ∀ c, ownT (ta i) a' c → ownT (ta i) (aa i) c ∨ H c = none) (t : Tabs cs H') (t1 : LamX.TabS H' p1 qD) (td : TabD B H' (ta i) a' S') : S3 cs B p1 p2 b l al ta (fset aa i a') (fset Sa i S') H' := by
  have m := (o.tab i hi).mob
  have nbl : ∀ c, H c = none → c ≠ b ∧ c ≠ l ∧ c ≠ al := fun c hc => ⟨fun e => mob_some (box_mobT o.box) (.inl rfl) (e ▸ hc), fun e => mob_some (box_mobT o.box) (.inr rfl) (e ▸ hc), fun e => by rw [e, o.als] at hc; cases hc⟩
  refine ⟨box_kn o.box k (fun z => (o.dbl i hi b z).1 rfl) (fun z => (o.dbl i hi l z).2.1 rfl), fun j hj => ?_, t, t1, tabS_kn k m (apart1 n2 nn) o.l2, k _ _ o.als (.inl fun ps z => nomatch z) (fun z => (o.dbl i hi al z).2.2 rfl), fun j j' hj hj' n c hc hc' => ?_, fun j hj c hc => ?_, o.dt⟩
  · by_cases e : j = i
    · rw [e, fset_same, fset_same]; exact td
    · rw [fset_ne e, fset_ne e]
      exact (o.tab j hj).km k.w m fun c hc z => o.dis j i hj hi e c hc z
  · by_cases e : j = i
    · rw [e, fset_same] at hc
      have e' : j' ≠ i := fun z => n (e.trans z.symm)
      rw [fset_ne e'] at hc'
      rcases ow c hc with z | z
      · exact o.dis i j' hi hj' (fun z => e' z.symm) c z hc'
      · exact mob_some (o.tab j' hj').mob hc' z
    · rw [fset_ne e] at hc
      by_cases e' : j' = i
      · rw [e', fset_same] at hc'
        rcases ow c hc' with z | z
        · exact o.dis j i hj hi e c hc z
        · exact mob_some (o.tab j hj).mob hc z
      · rw [fset_ne e'] at hc'
        exact o.dis j j' hj hj' n c hc hc'
  · by_cases e : j = i
    · rw [e, fset_same] at hc
      rcases ow c hc with z | z
      · exact o.dbl i hi c z
      · exact nbl c z
    · rw [fset_ne e] at hc
      exact o.dbl j hj c hc
theorem S3.still (o : S3 cs B p1 p2 b l al ta aa Sa H) (n2 : ∀ r ∈ cs, r.2 ≠ p2) (nn : p1 ≠ p2) (k : KN ((p1, p1) :: cs) (fun _ => False) H H') (t : Tabs cs H') (t1 : LamX.TabS H' p1 qD) : S3 cs B p1 p2 b l al ta aa Sa H' := by
  have m : Mob H (fun _ => False) := fun c z => z.elim
  exact ⟨box_kn o.box k (fun z => z) (fun z => z), fun j hj => (o.tab j hj).km k.w m fun c hc z => z, t, t1, tabS_kn k m (apart1 n2 nn) o.l2, k _ _ o.als (.inl fun ps z => nomatch z) (fun z => z), o.dis, o.dbl, o.dt⟩
theorem S3.ex (o : S3 cs B p1 p2 b l al ta aa Sa H) (n1 : ∀ r ∈ cs, r.2 ≠ p1) (n2 : ∀ r ∈ cs, r.2 ≠ p2) (nn : p1 ≠ p2) (x : Ex cs H H') : S3 cs B p1 p2 b l al ta aa Sa H' :=
  o.still n2 nn (fun c u h n _ => x.any h (n.imp id fun z r hr => z r (List.mem_cons_of_mem _ hr))) x.tab (tabS_kn (cs := cs) (A := fun _ => False) (fun c u h n _ => x.any h n) (fun c z => z.elim) n1 o.l1)
theorem S3.draw (o : S3 cs B p1 p2 b l al ta aa Sa H) (n1 : ∀ r ∈ cs, r.2 ≠ p1) (n2 : ∀ r ∈ cs, r.2 ≠ p2) (hB : BoxAt H' b l) (x : KB b l H H') : S3 cs B p1 p2 b l al ta aa Sa H' := by
  have m := box_mobT o.box
  have kn := kb_kn (cs := cs) x
  refine ⟨hB, fun j hj => (o.tab j hj).km kn.w m fun c hc z => ?_, tabs_km x o.box o.tbs, tabS_kn kn m n1 o.l1, tabS_kn kn m n2 o.l2, x _ _ o.als o.dt.1 o.dt.2, o.dis, o.dbl, o.dt⟩
  have := o.dbl j hj c hc
  rcases z with z | z
  · exact this.1 z
  · exact this.2.1 z
theorem S3.lamC (o : S3 cs B p1 p2 b l al ta aa Sa H) (n2 : ∀ r ∈ cs, r.2 ≠ p2) (nn : p1 ≠ p2) (lm : Lm p2 H H') (t2 : LamX.TabS H' p2 qL) : S3 cs B p1 p2 b l al ta aa Sa H' := by
  have ext := lm.ext o.l2
  have kn : KN [(p2, p2)] (fun _ => False) H H' := fun c u h n _ => lm.keep c u h (by
    rcases n with n | n
    · exact tab_ne o.l2 h n
    · exact fun e => n (p2, p2) (by simp) e.symm)
  exact ⟨box_kn o.box kn (fun z => z) (fun z => z), fun j hj => (o.tab j hj).gw ext, lm.tabs n2 o.tbs, tabS_kn kn (fun c z => z.elim) (fun r hr => by rw [List.mem_singleton] at hr; rw [hr]; exact fun e => nn e.symm) o.l1, t2, ext _ _ o.als (fun ps z => nomatch z), o.dis, o.dbl, o.dt⟩
end
/-! ### what the three have -/
abbrev rowsG (S : TSt) : List (List Str) := rowsT (textR S.signs (hereR S))
noncomputable def SaR (o : Nat → List Nat) (Ss : List Str) (D : List Deed) (u v : Nat → List Nat) : Nat → TSt := fun i => if i = 2 then TM o Ss D u else AL (xsO o Ss i) (dsO o D i) (v i)
section
variable {N : Nat} {o o' : Nat → List Nat} {Ss Ss' : List Str} {D D' : List Deed} {u v u' v' : Nat → List Nat} {h : Nat}
theorem SaR_2 : SaR o Ss D u v 2 = TM o Ss D u := if_pos rfl
theorem SaR_h (h2 : h < 2) : SaR o Ss D u v h = AL (xsO o Ss h) (dsO o D h) (v h) := if_neg (by omega)
theorem SaR_step (h2 : h < 2) (k : ∀ k, k ≠ h → xsO o' Ss' k = xsO o Ss k ∧ dsO o' D' k = dsO o D k ∧ v' k = v k) : ∀ i, i < 3 → fset (fset (SaR o Ss D u v) 2 (TM o' Ss' D' u')) h (AL (xsO o' Ss' h) (dsO o' D' h) (v' h)) i = SaR o' Ss' D' u' v' i := fun i hi => by
  by_cases e : i = h
  · rw [e, fset_same, SaR_h h2]
  · rw [fset_ne e]
    by_cases e2 : i = 2
    · rw [e2, fset_same, SaR_2]
    · rw [fset_ne e2, SaR_h (by omega), SaR_h (by omega), (k i e).1, (k i e).2.1, (k i e).2.2]
theorem rowsG_M (t : Two o Ss D) : rowsG (TM o Ss D u) = rowsT (txO o Ss D 0) ++ ([["between"]] : List (List Str)) ++ rowsT (txO o Ss D 1) := by
  have := rows_M t
  unfold pageR at this
  rw [sgB_len] at this
  exact this
theorem rowsG_A (t : Two o Ss D) {w : List Nat} : rowsG (AL (xsO o Ss h) (dsO o D h) w) = rowsT (txO o Ss D h) := by
  show rowsT (textR (("" : Str) :: xsO o Ss h) (thoseR (orA (xsO o Ss h).length) (thereR (1 + (xsO o Ss h).length) (dsO o D h)))) = _
  rw [text_A t]
theorem pg_rowsM (t : Two o Ss D) (p : PgOk (pageR (sgB Ss) (orB o) D)) : PgOk (rowsT (txO o Ss D 0) ++ ([["between"]] : List (List Str)) ++ rowsT (txO o Ss D 1)) := by
  rw [rows_M t] at p
  exact p
theorem step_val {S : TSt} {h : Nat} {w : What} {r : V × TSt} (e : stepT S h w = some r) : r.1 = .non ∨ ∃ b, r.1 = .bl b := by
  unfold stepT at e
  cases w with
  | press s =>
    dsimp only at e
    split at e
    · cases e; exact .inl rfl
    · cases e
  | rub =>
    dsimp only at e
    split at e
    · split at e
      · cases e; exact .inl rfl
      · cases e
    · cases e
  | back =>
    dsimp only at e
    split at e
    · split at e
      · cases e; exact .inr ⟨_, rfl⟩
      · cases e
    · cases e; exact .inr ⟨_, rfl⟩
  | again =>
    dsimp only at e
    split at e
    · split at e
      · cases e; exact .inr ⟨_, rfl⟩
      · cases e
    · cases e; exact .inr ⟨_, rfl⟩
/-- nothing of a hand is there: it stands at the begin alone -/
theorem at_none (t : Two o Ss D) (e : hereO o D h = []) {w : List Nat} : atR (AL (xsO o Ss h) (dsO o D h) w) 0 = (0, 0, 0) := by
  have eh : hereR (AL (xsO o Ss h) (dsO o D h) w) = [0] := by
    have := here_A (h := h) t
    rw [e] at this
    exact this
  unfold atR
  rw [eh]
  have e1 : ([0] : List Nat).take (([0] : List Nat).idxOf ((AL (xsO o Ss h) (dsO o D h) w).spots.getD 0 0)) = [] := rfl
  rw [e1]
  have e2 : textR (AL (xsO o Ss h) (dsO o D h) w).signs [] = "" := str_of (by rw [cl_textR]; rfl)
  rw [e2]
  decide +kernel
end
end TG

namespace TG
open PySem PySem.Spec PyProof.Rows L2 NdefX GenW Gx Lv Dl
/-! ### tables made -/
section
variable {K : PySem.W.Frag} {cs : List (Addr × Addr)} {B : Addr} {H : Hp} {Q : VK} {E : XK}
theorem TabD.ofEx {tb : Addr} {a : TA} {S : TSt} {H' : Hp} (o : TabD B H tb a S) (x : Ex cs H H') : TabD B H' tb a S := o.gw x.ext
theorem mkT {p st dx tb : Addr} {as : List Addr} {rows : List (List Str)} {gap least : Int} {n : Nat} (t : Tabs cs H) (pa : PageAt K H p as rows) (pg : PgOk rows) (sty : StyleAt K H st gap least) (h1 : 1 ≤ n) (h4 : n ≤ 4) (ntb : H tb = none) (ndx : H dx = none)
    (q : ∀ (a : TA) (H' : Hp), Ex cs H H' → (∀ c, ownT tb a c → H c = none ∧ H' c ≠ none) → TabD B H' tb a (startR (pageT rows) n) → Q .non H') : spTInit K cs B [.ref tb, .ref p, .ref st, .int (n : Nat)] (upd (upd H dx (.own tb)) tb (.ins B dx [])) Q E := by
  have s : Same H (upd (upd H dx (.own tb)) tb (.ins B dx [])) := fun c u h => by rw [upd_ne (ne_of_none h ntb), upd_ne (ne_of_none h ndx)]; exact h
  have x := same_ex s t
  have hob : upd (upd H dx (.own tb)) tb (.ins B dx []) tb = some (.ins B dx []) := upd_same
  generalize upd (upd H dx (.own tb)) tb (.ins B dx []) = H1 at s x hob ⊢
  refine ⟨tb, p, st, dx, as, rows, gap, least, n, rfl, x.tab, hob, ⟨x.sqL pa.lst, pa.len, fun i a r e1 e2 => x.sqT (pa.row i a r e1 e2)⟩, pg, ⟨x.sqT sty.tup, sty.g0, sty.g1, sty.l0, sty.l1⟩, h1, h4, fun a H' kp ow t' old hD => q a H' ?_ ?_ hD⟩
  · have ne : ∀ {c : Addr} {o : HO}, H c = some o → c ≠ tb := fun h e => by rw [e, ntb] at h; cases h
    refine ⟨fun c o h n => kp c o (s _ _ h) (.inl n) (ne h), t', fun c h => same_old s (old c h), fun c o h n => kp c o (s _ _ h) (.inr n) (ne h)⟩
  · intro c hc
    refine ⟨?_, mob_some hD.mob hc⟩
    rcases ow c hc with e | e
    · rw [e]; exact ntb
    · exact same_old s e
end
/-! ### the main one at its begin -/
def stK (k : Nat) : TSt := ⟨sgS zB ++ [("" : Str)], List.range 10, List.replicate 10 true, [], [0, k], [[], []]⟩
theorem stK_start : startR (pageT [[""], ["between"], [""]]) 2 = stK 0 := by
  unfold startR stK
  have e : (pageT [[""], ["between"], [""]]).length = 9 := zB_len
  rw [e]
  rfl
theorem stK_near : ∀ k, k < 9 → nearR (stK k) 1 1 = some (k + 1) := by
  intro k hk
  have e : ∀ k, k < 9 → nearR ⟨[], List.range 10, List.replicate 10 true, [], [0, k], [[], []]⟩ 1 1 = some (k + 1) := by decide +kernel
  exact e k hk
theorem stK_go {k : Nat} (hk : k < 9) : (goR1 (stK k) 1 1).2 = stK (k + 1) := by
  unfold goR1
  rw [stK_near k hk]
  rfl
abbrev o0 : Nat → List Nat := fun _ => []
theorem two0 : Two o0 [] [] where
  mr := fun h m hm => absurd hm List.not_mem_nil
  nd := fun h => List.nodup_nil
  dj := fun h h' m hm => absurd hm List.not_mem_nil
  dd := fun d hd => absurd hd List.not_mem_nil
  sm := fun s hs => absurd hs List.not_mem_nil
  ds := fun d hd => absurd hd List.not_mem_nil
  pd := fun h m hm => absurd hm List.not_mem_nil
  ol := fun h => Nat.zero_le _
  lS := Nat.zero_le _
  lD := Nat.zero_le _
theorem rel0 : Rel 0 o0 [] [] o0 o0 := ⟨two0, fun h _ => rfl, fun h _ i hi => absurd hi List.not_mem_nil, Nat.le_refl _, Nat.le_refl _, fun h _ => Nat.le_refl _⟩
theorem stK_TM : stK 9 = TM o0 [] [] o0 := by
  unfold stK TM
  have e1 : sgB [] = sgS zB ++ [("" : Str)] := List.append_nil _
  have e2 : orB o0 = List.range 10 := by decide +kernel
  have e3 : thereR (10 + ([] : List Str).length) [] = List.replicate 10 true := by decide +kernel
  rw [e1, e2, e3]
theorem stA_AL {h : Nat} : startR (pageT [[""]]) 1 = AL (xsO o0 [] h) (dsO o0 [] h) [] := by
  have e0 : pageT [[""]] = "" := by decide +kernel
  rw [e0]
  rfl
theorem stK_ok {k : Nat} (hk : k ≤ 9) : TOk (stK k) := by
  have h := tok_M (u := o0) two0 fun h _ => ⟨Nat.zero_le _, fun n hn => absurd hn List.not_mem_nil⟩
  rw [← stK_TM] at h
  refine ⟨h.one, h.many, h.ord, h.ol, h.tl, h.dm, h.dn, fun s hs => ?_, h.hn, h.h4, h.un⟩
  have e : thoseR (stK k).order (stK k).there = List.range 10 := by
    show thoseR (List.range 10) (List.replicate 10 true) = _
    decide +kernel
  rw [e]
  have hs : s ∈ [0, k] := hs
  have : s = 0 ∨ s = k := by simpa using hs
  rw [List.mem_range]
  omega
theorem at9 : atR (stK 9) 1 = (2, 0, 0) ∧ atR (stK 9) 0 = (0, 0, 0) := by constructor <;> decide +kernel
theorem pgB : PgOk ([[""], ["between"], [""]] : List (List Str)) := by
  have c0 : CellOk ("" : Str) := ⟨by decide, fun c hc => by
    have e : cl ("" : Str) = [] := by decide +kernel
    have hc : c ∈ cl ("" : Str) := hc
    rw [e] at hc
    exact absurd hc List.not_mem_nil⟩
  have c1 : CellOk ("between" : Str) := ⟨by decide, fun c hc => by
    have e : cl ("between" : Str) = [98, 101, 116, 119, 101, 101, 110] := by decide +kernel
    have hc : c ∈ cl ("between" : Str) := hc
    rw [e] at hc
    simp only [List.mem_cons, List.not_mem_nil, or_false] at hc
    unfold SgOk
    omega⟩
  have row : ∀ {z : Str}, CellOk z → RowOk [z] := fun h => ⟨by simp, by simp, fun y hy => by rw [List.mem_singleton] at hy; rw [hy]; exact h⟩
  refine ⟨by decide, by decide, fun r hr => ?_⟩
  simp only [List.mem_cons, List.not_mem_nil, or_false] at hr
  rcases hr with e | e | e <;> rw [e]
  · exact row c0
  · exact row c1
  · exact row c0
theorem pgA : PgOk ([[""]] : List (List Str)) := ⟨by decide, by decide, fun r hr => pgB.rows r (by rw [List.mem_singleton] at hr; rw [hr]; simp)⟩
theorem rows0 : rowsT (txO o0 [] [] 0) = ([[""]] : List (List Str)) ∧ rowsT (txO o0 [] [] 1) = ([[""]] : List (List Str)) := by constructor <;> decide +kernel
theorem pg0 : PgOk (pageR (sgB []) (orB o0) []) := by
  rw [rows_M two0, rows0.1, rows0.2]
  exact pgB
/-! ### pages told -/
structure PgAt (H : Hp) (r : Addr) (ps : List Addr) (rows : List (List Str)) : Prop where
  lst : H r = some (.lst (ps.map V.ref))
  row : RowsAt ps rows H
section
variable {K : PySem.W.Frag} {cs : List (Addr × Addr)} {B p1 p2 b l al : Addr} {ta : Nat → Addr} {aa : Nat → TA} {Sa : Nat → TSt} {H H' : Hp} {rows : List (List Str)} {r D : Addr} {ps : List Addr}
theorem PgAt.ex (p : PgAt H r ps rows) (x : Ex cs H H') : PgAt H' r ps rows := ⟨x.lst p.lst, p.row.len, fun i q z h1 h2 => x.tup (p.row.row i q z h1 h2)⟩
theorem PgAt.upd (p : PgAt H r ps rows) (n : r ≠ D) {xs ys : List V} (hD : H D = some (.lst xs)) : PgAt (upd H D (.lst ys)) r ps rows :=
  ⟨by rw [upd_ne n]; exact p.lst, p.row.len, fun i q z h1 h2 => by
    have h := p.row.row i q z h1 h2
    rw [upd_ne (fun e => by rw [e, hD] at h; cases h)]
    exact h⟩
theorem PgAt.dp (p : PgAt H r ps rows) : Dp K H (.ref r) (.list (rowsD rows)) := .lst (SqL.of p.lst) (dp_rows p.row.len fun i q t h1 h2 => SqT.of (p.row.row i q t h1 h2))
theorem pg_cat {r1 r2 tt c : Addr} {q1 q2 : List Addr} {w1 w2 : List (List Str)} {z : Str} (h1 : PgAt H r1 q1 w1) (h2 : PgAt H r2 q2 w2) (ht : H tt = some (.tup [.str z])) (hc : H c = some (.lst (q1.map V.ref ++ [V.ref tt] ++ q2.map V.ref))) : PgAt H c (q1 ++ [tt] ++ q2) (w1 ++ [[z]] ++ w2) := by
  refine ⟨by rw [hc, List.map_append, List.map_append]; rfl, by rw [List.length_append, List.length_append, List.length_append, List.length_append, h1.row.len, h2.row.len]; rfl, fun i q y e1 e2 => ?_⟩
  rw [List.append_assoc] at e1 e2
  by_cases c1 : i < q1.length
  · rw [List.getElem?_append_left c1] at e1
    rw [List.getElem?_append_left (by rw [← h1.row.len]; exact c1)] at e2
    exact h1.row.row i q y e1 e2
  · rw [List.getElem?_append_right (by omega)] at e1
    rw [List.getElem?_append_right (by rw [← h1.row.len]; omega), ← h1.row.len] at e2
    match hi : i - q1.length, e1, e2 with
    | 0, e1, e2 =>
      cases e1
      cases e2
      exact ht
    | j + 1, e1, e2 =>
      exact h2.row.row j q y e1 e2
/-- the pages of the two alone -/
theorem pages_lc {te : TE} {σ : L2.St} {Qd : Hp → Prop} {n : Nat} (n1 : ∀ r ∈ cs, r.2 ≠ p1) (n2 : ∀ r ∈ cs, r.2 ≠ p2) (nn : p1 ≠ p2) (o : S3 cs B p1 p2 b l al ta aa Sa H) (ok : ∀ i, i < 2 → TOk (Sa i)) (nD : H D = none)
    (hte : ∀ (i : Nat) (H' : Hp) (Q : VK), i < 2 → S3 cs B p1 p2 b l al ta aa Sa H' → spTPage cs B [.ref (ta i)] H' Q (fun _ _ _ => False) → te ((wipe σ [n]).set n (some (.ref (ta i)))) H' Q)
    (hw : ∀ i, i < 2 → wipe ((wipe σ [n]).set n (some (.ref (ta i)))) [n] = wipe σ [n])
    (hd : ∀ (r0 r1 : Addr) (q0 q1 : List Addr) (H' : Hp), Ex cs H H' → H' D = some (.lst [.ref r0, .ref r1]) → PgAt H' r0 q0 (rowsG (Sa 0)) → PgAt H' r1 q1 (rowsG (Sa 1)) → Qd H') :
    ∃ W : Nat → Nat → Hp → Prop, (∃ m, W 0 m (upd H D (.lst []))) ∧ ∀ i m H, W i m H →
      ((Itl K al).stop i H ∧ Qd H) ∨ ((Itl K al).go i H ∧ ∃ Nx : Hp → Prop, (∀ H', Nx H' → ∃ m', m' < m ∧ W (i + 1) m' H') ∧ ∀ x H', (Itl K al).yld i H x H' → gName n x (wipe σ [n]) H' fun σ2 H2 => wipe σ2 [n] = wipe σ [n] ∧ tYes σ2 H2 fun b H3 =>
        if b = true then te σ2 H3 fun y H4 => ∃ acc, H4 D = some (.lst acc) ∧ acc.length < sizeLine ∧ Nx (upd H4 D (.lst (acc ++ [y]))) else Nx H3) := by
  refine lc_list (xs := [.ref (ta 0), .ref (ta 1)]) (fun i H' => Ex cs H H' ∧ ∃ (rs : List Addr) (qs : List (List Addr)), H' D = some (.lst (rs.map V.ref)) ∧ rs.length = i ∧ qs.length = i ∧ ∀ j, j < i → rs.getD j 0 ≠ D ∧ PgAt H' (rs.getD j 0) (qs.getD j []) (rowsG (Sa j))) ⟨Ex.laid o.tbs nD, [], [], upd_same, rfl, rfl, fun j hj => absurd hj (Nat.not_lt_zero j)⟩ (fun i H' _ x => SqL.of (x.1.lst o.als)) ?_ ?_
  · rintro i v H' hv ⟨x, rs, qs, w1, w2, w3, w4⟩
    have hi : i < 2 := (List.getElem?_eq_some_iff.mp hv).1
    have ev : v = .ref (ta i) := by
      match i, hi, hv with
      | 0, _, hv => cases hv; rfl
      | 1, _, hv => cases hv; rfl
    subst ev
    have o' := o.ex n1 n2 nn x
    refine ⟨hw i hi, hte i H' _ hi o' ⟨ta i, aa i, Sa i, rfl, o'.tbs, o'.tab i (by omega), ok i hi, fun r ps H2 x2 nr hr hps => ?_⟩⟩
    have hD2 := x2.lst w1
    have rD : r ≠ D := fun e => by rw [e, w1] at nr; cases nr
    refine ⟨_, hD2, by rw [List.length_map, w2]; exact Nat.lt_of_lt_of_le hi (by decide), ex_new o.tbs (x.trans x2) nD, rs ++ [r], qs ++ [ps], by rw [upd_same, List.map_append]; rfl, by rw [List.length_append, w2]; rfl, by rw [List.length_append, w3]; rfl, fun j hj => ?_⟩
    by_cases c : j < i
    · have e1 : (rs ++ [r]).getD j 0 = rs.getD j 0 := by rw [List.getD_eq_getElem?_getD, List.getElem?_append_left (by omega), ← List.getD_eq_getElem?_getD]
      have e2 : (qs ++ [ps]).getD j [] = qs.getD j [] := by rw [List.getD_eq_getElem?_getD, List.getElem?_append_left (by omega), ← List.getD_eq_getElem?_getD]
      rw [e1, e2]
      exact ⟨(w4 j c).1, ((w4 j c).2.ex x2).upd (w4 j c).1 hD2⟩
    · have ej : j = i := by omega
      have e1 : (rs ++ [r]).getD j 0 = r := by rw [List.getD_eq_getElem?_getD, List.getElem?_append_right (by omega), ej, w2, Nat.sub_self]; rfl
      have e2 : (qs ++ [ps]).getD j [] = ps := by rw [List.getD_eq_getElem?_getD, List.getElem?_append_right (by omega), ej, w3, Nat.sub_self]; rfl
      rw [e1, e2, ej]
      exact ⟨rD, PgAt.upd ⟨hr, hps⟩ rD hD2⟩
  · rintro H' ⟨x, rs, qs, w1, w2, w3, w4⟩
    match rs, qs, w1, w2, w3, w4 with
    | [r0, r1], [q0, q1], w1, w2, w3, w4 => exact hd r0 r1 q0 q1 H' x w1 (w4 0 (by show 0 < 2; decide)).2 (w4 1 (by show 1 < 2; decide)).2
theorem S3.went {a' : TA} {S' : TSt} {i : Nat} (n1 : ∀ r ∈ cs, r.2 ≠ p1) (n2 : ∀ r ∈ cs, r.2 ≠ p2) (nn : p1 ≠ p2) (o : S3 cs B p1 p2 b l al ta aa Sa H) (hi : i < 3) (k : KN cs (ownT (ta i) (aa i)) H H') (ow : ∀ c, ownT (ta i) a' c → ownT (ta i) (aa i) c ∨ H c = none) (t : Tabs cs H') (td : TabD B H' (ta i) a' S') : S3 cs B p1 p2 b l al ta (fset aa i a') (fset Sa i S') H' :=
  o.goes n2 nn hi (fun c u h n m => k c u h (n.imp id fun z r hr => z r (List.mem_cons_of_mem _ hr)) m) ow t (tabS_kn k (o.tab i hi).mob n1 o.l1) td
theorem v3_dp {t : Addr} {x y z : Int} (h : H t = some (.tup [.int x, .int y, .int z])) : Dp K H (.ref t) (.tuple [.int x, .int y, .int z]) := .tup (SqT.of h) (.cons (.int _) (.cons (.int _) (.cons (.int _) .nil)))
theorem ne_v3 {t u : Addr} {x y z : Int} {Z : VK} (h1 : H t = some (.tup [.int x, .int y, .int z])) (h2 : H u = some (.tup [.int x, .int y, .int z])) (q : Z (.bl false) H) : rNeD K (.ref t) (.ref u) H Z := by
  refine ⟨_, _, v3_dp h1, v3_dp h2, rfl, rfl, ?_⟩
  have e : PyData.eqv (.tuple [.int x, .int y, .int z]) (.tuple [.int x, .int y, .int z]) = true := by simp [PyData.eqv, PyData.eqvAll]
  rw [e]
  exact q
theorem eq_v3 {t u : Addr} {x y z x' y' z' : Int} {Z : VK} (h1 : H t = some (.tup [.int x, .int y, .int z])) (h2 : H u = some (.tup [.int x', .int y', .int z'])) (q : ∀ e : Bool, (x = x' → y = y' → z = z' → e = true) → Z (.bl e) H) : rEqD K (.ref t) (.ref u) H Z := by
  refine ⟨_, _, v3_dp h1, v3_dp h2, rfl, rfl, q _ fun e1 e2 e3 => ?_⟩
  rw [e1, e2, e3]
  simp [PyData.eqv, PyData.eqvAll]
/-- the main page, and the one put together of the two -/
theorem ne_pg {r c : Addr} {ps qs : List Addr} {Z : VK} (g : PgOk rows) (h1 : PgAt H r ps rows) (h2 : PgAt H c qs rows) (q : Z (.bl false) H) : rNeD K (.ref r) (.ref c) H Z := by
  have s := shaped_rows g
  have e : PyData.eqv (.list (rowsD rows)) (.list (rowsD rows)) = true := SeqAt.eqv_refl _ (can_rows g)
  exact ⟨_, _, h1.dp, h2.dp, s, s, by rw [e]; exact q⟩
theorem eq_pg {r c : Addr} {ps qs : List Addr} {Z : VK} (g : PgOk rows) (h1 : PgAt H r ps rows) (h2 : PgAt H c qs rows) (q : Z (.bl true) H) : rEqD K (.ref r) (.ref c) H Z := by
  have s := shaped_rows g
  have e : PyData.eqv (.list (rowsD rows)) (.list (rowsD rows)) = true := SeqAt.eqv_refl _ (can_rows g)
  exact ⟨_, _, h1.dp, h2.dp, s, s, by rw [e]; exact q⟩
theorem pageAt1 {H : Hp} {p t : Addr} {r : List Str} (hp : H p = some (.lst [.ref t])) (ht : H t = some (.tup (sV r))) : PageAt K H p [t] [r] := ⟨SqL.of hp, rfl, fun i q z h1 h2 => by
  match i, h1, h2 with
  | 0, h1, h2 =>
    cases h1
    cases h2
    exact SqT.of ht
  | i + 1, h1, _ => simp at h1⟩
theorem tone_go {v : V} {σ : L2.St} {H : Hp} {Q : List V → Hp → Prop} (h : Q [v] H) : tCons (tC v) tNil σ H Q := h
theorem sh_ref : SeqAt.shaped (.str "refused") = true := by decide +kernel
theorem ne_val {v : V} {Z : VK} (hv : v = .non ∨ (∃ b, v = .bl b) ∨ v = .str "refused") (q : Z (.bl false) H) : rNeD K v v H Z := by
  rcases hv with rfl | ⟨b, rfl⟩ | rfl
  · exact ⟨.none, .none, .non, .non, rfl, rfl, q⟩
  · refine ⟨.bool b, .bool b, .bl b, .bl b, rfl, rfl, ?_⟩
    have e : PyData.eqv (.bool b) (.bool b) = true := SeqAt.eqv_refl _ rfl
    rw [e]
    exact q
  · refine ⟨.str "refused", .str "refused", .str _, .str _, sh_ref, sh_ref, ?_⟩
    have e : PyData.eqv (.str "refused") (.str "refused") = true := SeqAt.eqv_refl _ (by decide +kernel)
    rw [e]
    exact q
theorem ne_ref {v : V} {Z : VK} (hv : v = .non ∨ ∃ b, v = .bl b) (q : Z (.bl true) H) : rNeD K (.str "refused") v H Z := by
  rcases hv with rfl | ⟨b, rfl⟩
  · exact ⟨.str "refused", .none, .str _, .non, sh_ref, rfl, q⟩
  · exact ⟨.str "refused", .bool b, .str _, .bl b, sh_ref, rfl, q⟩
theorem eq_str {Z : VK} (q : Z (.bl true) H) : rEqD K (.str "refused") (.str "refused") H Z := by
  refine ⟨.str "refused", .str "refused", .str _, .str _, sh_ref, sh_ref, ?_⟩
  have e : PyData.eqv (.str "refused") (.str "refused") = true := SeqAt.eqv_refl _ (by decide +kernel)
  rw [e]
  exact q
theorem eq_ref {v : V} {Z : VK} (hv : v = .non ∨ ∃ b, v = .bl b) (q : Z (.bl false) H) : rEqD K v (.str "refused") H Z := by
  rcases hv with rfl | ⟨b, rfl⟩
  · exact ⟨.none, .str "refused", .non, .str _, rfl, sh_ref, q⟩
  · exact ⟨.bool b, .str "refused", .bl b, .str _, rfl, sh_ref, q⟩
/-- a cut off of what is to be proved, not yet known -/
theorem cutG (G C : V → Hp → Prop) {X : Prop} (f : (∀ v H, C v H → G v H) → X) (g : ∀ v H, C v H → G v H) : X := f g
def S9 (i : Nat) : Nat → TSt := fun j => if j = 2 then stK i else AL (xsO o0 [] j) (dsO o0 [] j) []
theorem S9_step (i : Nat) : ∀ j, j < 3 → fset (S9 i) 2 (stK (i + 1)) j = S9 (i + 1) j := fun j _ => by
  by_cases e : j = 2
  · rw [e, fset_same]; rfl
  · rw [fset_ne e]; unfold S9; rw [if_neg e, if_neg e]
theorem S9_SaR : ∀ j, j < 3 → S9 9 j = SaR o0 [] [] o0 o0 j := fun j hj => by
  by_cases e : j = 2
  · rw [e, SaR_2, ← stK_TM]; rfl
  · rw [SaR_h (by omega)]; unfold S9; rw [if_neg e]
theorem tnil_go {σ : L2.St} {H : Hp} {Q : List V → Hp → Prop} (h : Q [] H) : tNil σ H Q := h
/-- the two pages put together are the main one -/
theorem cat_ne {σ : L2.St} {Dd r0 r1 r : Addr} {q0 q1 ps : List Addr} {w0 w1 : List (List Str)} {Z : VK} (hσ : σ[12]? = some (some (.ref Dd))) (t : Tabs cs H) (hD : H Dd = some (.lst [.ref r0, .ref r1])) (g0 : PgAt H r0 q0 w0) (g1 : PgAt H r1 q1 w1) (g : PgAt H r ps (w0 ++ ([["between"]] : List (List Str)) ++ w1)) (pg : PgOk (w0 ++ ([["between"]] : List (List Str)) ++ w1)) (q : ∀ H', Ex cs H H' → Z (.bl false) H') :
    tOp rCat (tOp rCat (tOp (rIxL K) (tVar 12) (tC (.int 0))) (tLst (tCons (tTup (tCons (tC (.str "between")) tNil)) tNil))) (tOp (rIxL K) (tVar 12) (tC (.int 1))) σ H fun y H2 => rNeD K (.ref r) y H2 Z := by
  have l0 := g0.row.len
  have l1 := g1.row.len
  have lp := pg.len
  rw [List.length_append, List.length_append, List.length_singleton] at lp
  have sz : 100 ≤ sizeLine := by decide
  refine ⟨_, hσ, Dd, _, 0, .ref r0, rfl, rfl, SqL.of hD, atI_nat (j := 0) rfl, by show 1 ≤ sizeLine; decide, fun tt ntt => ⟨by show 1 ≤ sizeLine; decide, fun ll nll => ?_⟩⟩
  have x1 := (Ex.laid (o := .tup [V.str "between"]) t ntt)
  have ht := upd_same (H := H) (a := tt) (o := HO.tup [V.str "between"])
  have x2 := (Ex.laid (o := .lst [V.ref tt]) x1.tab nll)
  have hl := upd_same (H := upd H tt (.tup [V.str "between"])) (a := ll) (o := HO.lst [V.ref tt])
  generalize upd (upd H tt (.tup [V.str "between"])) ll (.lst [V.ref tt]) = H2 at x2 hl ⊢
  have x12 := x1.trans x2
  have ht := x2.tup ht
  clear x1 x2 ntt nll
  refine ⟨r0, ll, _, _, rfl, rfl, (g0.ex x12).lst, hl, by rw [List.length_map]; show q0.length + 1 ≤ sizeLine; omega, fun c1 nc1 => ?_⟩
  have x3 := (Ex.laid (o := .lst (q0.map V.ref ++ [V.ref tt])) x12.tab nc1)
  have hc1 := upd_same (H := H2) (a := c1) (o := HO.lst (q0.map V.ref ++ [V.ref tt]))
  generalize upd H2 c1 (.lst (q0.map V.ref ++ [V.ref tt])) = H3 at x3 hc1 ⊢
  have x13 := x12.trans x3
  have ht := x3.tup ht
  refine ⟨_, hσ, Dd, _, 1, .ref r1, rfl, rfl, SqL.of (x13.lst hD), atI_nat (j := 1) rfl, ?_⟩
  refine ⟨c1, r1, _, _, rfl, rfl, hc1, (g1.ex x13).lst, by rw [List.length_append, List.length_map, List.length_map]; show q0.length + 1 + q1.length ≤ sizeLine; omega, fun c2 nc2 => ?_⟩
  have x4 := (Ex.laid (o := .lst (q0.map V.ref ++ [V.ref tt] ++ q1.map V.ref)) x13.tab nc2)
  have hc2 := upd_same (H := H3) (a := c2) (o := HO.lst (q0.map V.ref ++ [V.ref tt] ++ q1.map V.ref))
  generalize upd H3 c2 (.lst (q0.map V.ref ++ [V.ref tt] ++ q1.map V.ref)) = H4 at x4 hc2 ⊢
  have x14 := x13.trans x4
  exact ne_pg pg (g.ex x14) (pg_cat (g0.ex x14) (g1.ex x14) (x4.tup ht) hc2) (q _ x14)
theorem tC_go {v : V} {σ : L2.St} {Q : VK} (h : Q v H) : tC v σ H Q := h
end
/-! ### taking back to the end -/
abbrev cnR (ds : List Deed) : Nat := (stR ds 0 ds.length).length
theorem cn_turn {ds : List Deed} {n : Nat} (hn : n ∈ stR ds 0 ds.length) : cnR (tD ds n false) < cnR ds := by
  have ln := stR_lt hn
  have e : stR (tD ds n false) 0 (tD ds n false).length = (stR ds 0 ds.length).filter fun i => !decide (i = n) := by
    rw [tD_len]
    unfold stR
    rw [List.filter_filter]
    refine List.filter_congr fun i hi => ?_
    rw [tD_get]
    by_cases c : i = n
    · rw [if_pos ⟨c, ln⟩, c]; simp
    · rw [if_neg (fun z => c z.1)]; simp [c]
  unfold cnR
  rw [e]
  exact List.length_filter_lt_length_iff_exists.mpr ⟨n, hn, by simp⟩
theorem back_val {xs xs' : List Str} {ds ds' : List Deed} {w w' : List Nat} {val : V} (e : stepT (AL xs ds w) 0 .back = some (val, AL xs' ds' w')) : (val = .bl true ∧ cnR ds' < cnR ds) ∨ (val = .bl false ∧ cnR ds' = 0) := by
  unfold stepT at e
  dsimp only at e
  cases c : (stR (AL xs ds w).deeds 0 (AL xs ds w).deeds.length).getLast? with
  | none =>
    rw [c] at e
    injection e with e
    have e1 := congrArg Prod.fst e
    have e2 : ds = ds' := congrArg (fun q => q.2.deeds) e
    refine .inr ⟨e1.symm, ?_⟩
    rw [← e2]
    have : stR ds 0 ds.length = [] := List.getLast?_eq_none_iff.mp c
    unfold cnR
    rw [this]
    rfl
  | some n =>
    rw [c] at e
    dsimp only at e
    split at e
    · injection e with e
      have e1 := congrArg Prod.fst e
      have e2 : (backR (AL xs ds w) 0).2.deeds = ds' := congrArg (fun q => q.2.deeds) e
      unfold backR at e2
      rw [c] at e2
      have e2 : tD ds n false = ds' := e2
      refine .inl ⟨e1.symm, ?_⟩
      rw [← e2]
      exact cn_turn (List.mem_of_getLast? c)
    · cases e
section
variable {N : Nat} {o : Nat → List Nat} {Ss : List Str} {D : List Deed} {u v : Nat → List Nat} {h : Nat}
theorem here_nil (t : Two o Ss D) (e : cnR (dsO o D h) = 0) : hereO o D h = [] := by
  have es : stR D h D.length = [] := by rw [st_O (o := o), List.eq_nil_of_length_eq_zero e]; rfl
  refine List.filter_eq_nil_iff.mpr fun m hm hp => ?_
  obtain ⟨d, hd, h1, h2, h3⟩ := t.pd h m hm
  have hf : d.2.2.2 = false := by
    cases c : d.2.2.2 with
    | false => rfl
    | true =>
      obtain ⟨i, hi, e⟩ := mem_ix hd
      have : i ∈ stR D h D.length := List.mem_filter.mpr ⟨List.mem_range.mpr hi, by rw [e, h1, c]; simp⟩
      rw [es] at this
      cases this
  have := List.all_eq_true.mp hp d hd
  unfold killD at this
  rw [hf, h2, decide_eq_false h3] at this
  simp at this
theorem Rel.tokM9 (r : Rel N o Ss D u v) (hN : N ≤ 9000) : TOk (TM o Ss D u) := by
  have h := tok_M (u := fun _ => []) r.two fun h _ => ⟨Nat.zero_le _, fun n hn => absurd hn List.not_mem_nil⟩
  refine ⟨h.one, h.many, h.ord, h.ol, h.tl, h.dm, h.dn, h.sp, rfl, h.h4, fun l hl => ?_⟩
  have key : ∀ h, h < 2 → (u h).length ≤ 9000 ∧ ∀ n ∈ u h, n < D.length := fun h q => by
    rw [r.un h q, List.length_map]
    refine ⟨by have := r.lv h q; omega, fun n hn => ?_⟩
    obtain ⟨i, hi, rfl⟩ := List.mem_map.mp hn
    exact (dpos_lt (List.mem_of_getElem? (dpos_getD (r.vl h q i hi)))).1
  have hl : l ∈ [u 0, u 1] := hl
  have hl : l = u 0 ∨ l = u 1 := by simpa using hl
  rcases hl with q | q <;> rw [q]
  · exact key 0 (by decide)
  · exact key 1 (by decide)
theorem Rel.tokA9 (r : Rel N o Ss D u v) (hN : N ≤ 9000) (h2 : h < 2) : TOk (AL (xsO o Ss h) (dsO o D h) (v h)) := by
  have k := tok_A (h := h) (w := []) r.two ⟨Nat.zero_le _, fun n hn => absurd hn List.not_mem_nil⟩
  refine ⟨k.one, k.many, k.ord, k.ol, k.tl, k.dm, k.dn, k.sp, rfl, k.h4, fun l hl => ?_⟩
  have hl : l ∈ [v h] := hl
  rw [List.mem_singleton] at hl
  rw [hl]
  exact ⟨by have := r.lv h h2; omega, fun i hi => by show i < (dsO o D h).length; rw [dsO_len]; exact r.vl h h2 i hi⟩
theorem end_rows (t : Two o Ss D) (h0 : cnR (dsO o D 0) = 0) (h1 : cnR (dsO o D 1) = 0) : rowsG (TM o Ss D u) = ([[""], ["between"], [""]] : List (List Str)) := by
  rw [rowsG_M t]
  have e : ∀ h, cnR (dsO o D h) = 0 → rowsT (txO o Ss D h) = ([[""]] : List (List Str)) := fun h q => by
    have e2 : txO o Ss D h = "" := by
      unfold txO
      rw [here_nil t q]
      exact str_of (by rw [cl_textR]; rfl)
    rw [e2]
    decide +kernel
  rw [e 0 h0, e 1 h1]
  rfl
end
end TG

namespace TG
open PySem PySem.Spec PyProof.Rows L2 NdefX GenW Gx Lv Dl
/-! ### the law -/
section
variable {P : Program} {w : World} {K : PySem.W.Frag} {mg : Str → Option Value} {base : Heap} {cs : List (Addr × Addr)} {B C CB G p1 p2 : Addr}
def spLaw (K : PySem.W.Frag) (cs : List (Addr × Addr)) (p1 p2 : Addr) : Sp := fun vs H Q _ => ∃ (a : Addr) (ns : List Int), vs = [.ref a] ∧ Tabs cs H ∧ LamX.TabS H p1 qD ∧ LamX.TabS H p2 qL ∧ SqL K H a (ns.map V.int) ∧ ns.length ≤ 63 ∧ ∀ H', Q (.bl true) H'
abbrev nmLaw : List Str := ["_law_script", "_law_box", "_law_style_here", "_law_table", "_law_alone", "_law_turn", "_law_hand", "_law_way", "_law_sign_here", "_law_what", "_law_found", "_law_due", "_law_pages", "_law_told", "_law_one"]
theorem sc_law : FnScope nmLaw ["_law_script"] (defScope s_law) := ⟨rfl, rfl, rfl, by decide +kernel, rfl, by decide +kernel, by decide +kernel⟩
theorem key_l : ∀ y ∈ lamL.2.2.names, y.2 = .free → (defScope s_law).names.lookup y.1 = some .cell := by decide +kernel
theorem key_lc : ∀ y ∈ cap2, (defScope s_law).names.lookup y = some .cell := by decide +kernel
theorem ok_law {f c g1 g2 g3 g4 g5 g6 gi gr gp ga gb : Addr} {fd fd1 fd2 fd3 fd4 fd5 fd6 fdi fdr fdp fda fdb : FuncData} (T : Txt mg) (X : TabC K B) (n1 : ApartT cs p1) (n2 : ApartT cs p2) (nn : p1 ≠ p2) (F : Fun K "law" "law" s_law f fd) (hcode : fd.code = .ref c) (TB : LamX.TabB base mg c p2) (up : PySem.W.exmOne K (.ref C) (.ref G) = some true)
    (G1 : FnOk P w K mg base CX0 1 g1 fd1 ["_law_script"] (spBegun K)) (k1 : PySem.W.keepIn K (.ref g1) = true) (b1 : Binds K fd1 ["_law_script"] []) (m1 : mg "_law_begun" = some (.ref g1))
    (G2 : FnOk P w K mg base CX0 1 g2 fd2 ["_law_box", "_law_many"] spTake) (k2 : PySem.W.keepIn K (.ref g2) = true) (b2 : Binds K fd2 ["_law_box", "_law_many"] []) (m2 : mg "_law_take" = some (.ref g2))
    (G3 : FnOk P w K mg base CX0 2 g3 fd3 ["_law_box"] spSign) (k3 : PySem.W.keepIn K (.ref g3) = true) (b3 : Binds K fd3 ["_law_box"] []) (m3 : mg "_law_sign" = some (.ref g3))
    (G4 : FnOk P w K mg base CX0 2 g4 fd4 ["_law_box"] spStyleD) (k4 : PySem.W.keepIn K (.ref g4) = true) (b4 : Binds K fd4 ["_law_box"] []) (m4 : mg "_law_style" = some (.ref g4))
    (G5 : FnOk P w K mg base CX0 16 g5 fd5 ["_law_table", "_law_hand", "_law_what"] (spDone cs B p1)) (k5 : PySem.W.keepIn K (.ref g5) = true) (b5 : Binds K fd5 ["_law_table", "_law_hand", "_law_what"] []) (m5 : mg "_law_done" = some (.ref g5))
    (G6 : FnOk P w K mg base CX0 15 g6 fd6 ["_law_work"] (spCould P w K mg base G 14)) (k6 : PySem.W.keepIn K (.ref g6) = true) (b6 : Binds K fd6 ["_law_work"] []) (m6 : mg "_law_could" = some (.ref g6))
    (MC : Mk K B gi) (GC : FnOk P w K mg base CX0 13 gi fdi ["self", "page", "style", "hands"] (spTInit K cs B)) (bC : Binds K fdi ["self", "page", "style", "hands"] []) (mC : mg "Table" = some (.ref B))
    (Mr : Meth K B "right" gr) (Gr : FnOk P w K mg base CX0 5 gr fdr ["self", "hand"] (spTRight cs B)) (br : Binds K fdr ["self", "hand"] [])
    (Mp : Meth K B "page" gp) (Gp : FnOk P w K mg base CX0 3 gp fdp ["self"] (spTPage cs B)) (bp : Binds K fdp ["self"] [])
    (Ma : Meth K B "at" ga) (Ga : FnOk P w K mg base CX0 3 ga fda ["self", "hand"] (spTAt cs B)) (ba : Binds K fda ["self", "hand"] [])
    (Mb : Meth K B "back" gb) (Gb : FnOk P w K mg base (L2.CX P w) 13 gb fdb ["self", "hand"] (spTBack cs B C)) (Gb0 : FnOk P w K mg base CX0 13 gb fdb ["self", "hand"] (noE (spTBack cs B C))) (bb : Binds K fdb ["self", "hand"] []) :
    FnOk P w K mg base CX0 17 f fd ["_law_script"] (spLaw K cs p1 p2) := by
  refine fun_okT F hcode sc_law (fun vs H Q E h => ?_) (fun A outer s H vs Q E hr h => ?_)
  · obtain ⟨a, ns, rfl, _⟩ := h
    rfl
  · obtain ⟨a, ns, rfl, hT, hL1, hL2, hS, hl, k⟩ := h
    have nd := sc_law.nd
    have hu := hr.units
    have r1 : Room 1 _ := hr.mono (by decide)
    have r2 : Room 2 _ := hr.mono (by decide)
    have r3 : Room 3 _ := hr.mono (by decide)
    have r5 : Room 5 _ := hr.mono (by decide)
    have r13 : Room 13 _ := hr.mono (by decide)
    have r14 : Room 14 _ := hr.mono (by decide)
    have r15 : Room 15 _ := hr.mono (by decide)
    have r16 : Room 16 _ := hr
    have hu1 := room1 hr
    refine ⟨_, pss_cons (ps_set (i := 1) nd rfl (.inl rfl) (pe_call G1 r1 (by rfl) m1 k1 b1 .nil pass0 (pa_cons (pv 0) pa_nil)))
      (pss_cons (ps_set (i := 2) nd rfl (.inl rfl) (pe_call G4 r2 (by rfl) m4 k4 b4 .nil pass0 (pa_cons (pv 1) pa_nil)))
      (pss_cons (ps_set (i := 3) nd rfl (.inr rfl) (pe_make MC GC r14 (by rfl) mC bC .nil pass0 (pa_cons (pe_lst (pa_cons (pe_tup (pa_cons pe_str pa_nil)) (pa_cons (pe_tup (pa_cons pe_str pa_nil)) (pa_cons (pe_tup (pa_cons pe_str pa_nil)) pa_nil)))) (pa_cons (pv 2) (pa_cons pe_int pa_nil)))))
      (pss_cons (ps_set (i := 4) nd rfl (.inl rfl) (pe_lst (pa_cons (pe_make MC GC r14 (by rfl) mC bC .nil pass0 (pa_cons (pe_lst (pa_cons (pe_tup (pa_cons pe_str pa_nil)) pa_nil)) (pa_cons (pv 2) (pa_cons pe_int pa_nil)))) (pa_cons (pe_make MC GC r14 (by rfl) mC bC .nil pass0 (pa_cons (pe_lst (pa_cons (pe_tup (pa_cons pe_str pa_nil)) pa_nil)) (pa_cons (pv 2) (pa_cons pe_int pa_nil)))) pa_nil))))
      (pss_cons (ps_for PassesOwn.never rfl (pi_range1 (by rfl) T.range (pa_cons pe_int pa_nil)) (pg_name (i := 5) nd rfl (.inl rfl)) (pss_one (ps_expr (pe_meth (pv 3) X.cls Mr Gr r5 br .nil pass0 (pa_cons pe_int pa_nil)))))
      (pss_cons (ps_if (PW.pt (pw_or (pt_cmpR (op_neD hu) (pe_meth (pv 3) X.cls Ma Ga r3 ba .nil pass0 (pa_cons pe_int pa_nil)) (pe_tup (pa_cons pe_int (pa_cons pe_int (pa_cons pe_int pa_nil)))) (nomark _)) (pw_or1 (pt_cmpR (op_neD hu) (pe_meth (pv 3) X.cls Ma Ga r3 ba .nil pass0 (pa_cons pe_int pa_nil)) (pe_tup (pa_cons pe_int (pa_cons pe_int (pa_cons pe_int pa_nil)))) (nomark _))))) (pss_one (ps_ret pe_bl)) pss_nil)
      (pss_cons (ps_for PassesOwn.never rfl (pi_range1 (by rfl) T.range (pa_cons (pe_call G2 r1 (by rfl) m2 k2 b2 .nil pass0 (pa_cons (pv 1) (pa_cons pe_int pa_nil))) pa_nil)) (pg_name (i := 5) nd rfl (.inl rfl))
        (pss_cons (ps_asg (pe_tup (pa_cons (pe_call G2 r1 (by rfl) m2 k2 b2 .nil pass0 (pa_cons (pv 1) (pa_cons pe_int pa_nil))) (pa_cons (pe_call G2 r1 (by rfl) m2 k2 b2 .nil pass0 (pa_cons (pv 1) (pa_cons pe_int pa_nil))) pa_nil))) (pg_tup rfl (pgs_cons (pg_name (i := 6) nd rfl (.inr rfl)) (pgs_cons (pg_name (i := 7) nd rfl (.inl rfl)) pgs_nil))))
        (pss_cons (ps_set (i := 8) nd rfl (.inl rfl) (pe_ix ix_list (pe_lst (pa_cons pe_str (pa_cons pe_str (pa_cons (pe_call G3 r2 (by rfl) m3 k3 b3 .nil pass0 (pa_cons (pv 1) pa_nil)) (pa_cons (pe_ix ix_str pe_str (pe_call G2 r1 (by rfl) m2 k2 b2 .nil pass0 (pa_cons (pv 1) (pa_cons pe_int pa_nil))) (fun _ _ => rfl)) pa_nil))))) (pe_call G2 r1 (by rfl) m2 k2 b2 .nil pass0 (pa_cons (pv 1) (pa_cons pe_int pa_nil))) (fun _ _ => rfl)))
        (pss_cons (ps_set (i := 9) nd rfl (.inl rfl) (pe_ix ix_list (pe_lst (pa_cons (pe_tup (pa_cons pe_str pa_nil)) (pa_cons (pe_tup (pa_cons pe_str pa_nil)) (pa_cons (pe_tup (pa_cons pe_str pa_nil)) (pa_cons (pe_tup (pa_cons pe_str pa_nil)) (pa_cons (pe_tup (pa_cons pe_str (pa_cons (pv 8) pa_nil))) pa_nil)))))) (pe_callB (call_min2 rfl) (by rfl) T.min (by decide +kernel) (pa_cons pe_int (pa_cons (pv 7) pa_nil))) (fun _ _ => rfl)))
        (pss_cons (ps_if (PW.pt (pw_and (pt_cmpR op_eq (pe_ix ix_tup (pv 9) pe_int (fun _ _ => rfl)) pe_str (nomark _)) (pw_and1 (pt_cmpR (op_eqD hu) (pe_meth (pe_ix ix_list (pv 4) (pv 6) (fun _ _ => rfl)) X.cls Ma Ga r3 ba .nil pass0 (pa_cons pe_int pa_nil)) (pe_tup (pa_cons pe_int (pa_cons pe_int (pa_cons pe_int pa_nil)))) (nomark _))))) (pss_one (ps_set (i := 9) nd rfl (.inl rfl) (pe_tup (pa_cons pe_str pa_nil)))) pss_nil)
        (pss_cons (ps_par (i := 10) (j := 11) rfl nd rfl rfl (by decide) rfl rfl (pa_cons (pe_call G5 r16 (by rfl) m5 k5 b5 .nil pass0 (pa_cons (pv 3) (pa_cons (pv 6) (pa_cons (pv 9) pa_nil)))) (pa_cons (pe_call G5 r16 (by rfl) m5 k5 b5 .nil pass0 (pa_cons (pe_ix ix_list (pv 4) (pv 6) (fun _ _ => rfl)) (pa_cons pe_int (pa_cons (pv 9) pa_nil)))) pa_nil)) (by rfl))
        (pss_cons (ps_if (PW.pt (pw_and (pt_cmpR (op_neD hu) (pv 10) (pv 11) (nomark _)) (pw_and1 (pt_cmpR (op_eqD hu) (pv 10) pe_str (nomark _))))) (pss_one (ps_ret pe_bl)) pss_nil)
        (pss_cons (ps_setLc (i := 12) (own := [("_law_one", 14)]) (g := gName 14) (tt := tYes) rfl nd rfl rfl (sw_true rfl rfl rfl (by decide +kernel)) (pi_list (pv 4)) (blkOk_by (own := [("_law_one", 14)]) (N := nmLaw) (sc := defScope s_law) (by decide +kernel)) (fun _ _ _ _ _ => pg_name (i := 14) nd rfl (Or.inl rfl)) (fun _ _ _ _ _ => pts_nil) (fun _ _ _ _ _ => pe_meth0 (pv 14) X.cls Mp Gp r3 bp .nil pass0))
        (pss_one (ps_if (PW.pt (pw_or (pt_cmpR (op_neD hu) (pv 10) (pv 11) (nomark _)) (pw_or1 (pt_cmpR (op_neD hu) (pe_meth0 (pv 3) X.cls Mp Gp r3 bp .nil pass0) (pe_op op_cat (pe_op op_cat (pe_ix ix_list (pv 12) pe_int (fun _ _ => rfl)) (pe_lst (pa_cons (pe_tup (pa_cons pe_str pa_nil)) pa_nil))) (pe_ix ix_list (pv 12) pe_int (fun _ _ => rfl))) (nomark _))))) (pss_one (ps_ret pe_bl)) pss_nil))))))))))
      (pss_cons (ps_for PassesOwn.never rfl (pi_range1 (by rfl) T.range (pa_cons pe_int pa_nil)) (pg_name (i := 6) nd rfl (.inr rfl))
        (pss_cons (ps_set (i := 13) nd rfl (.inl rfl) pe_bl)
        (pss_one (ps_while PassesOwn.never (pt_val (pv 13))
          (pss_cons (ps_set (i := 13) nd rfl (.inl rfl) (pe_callC (names := cap2) G6 r15 (by rfl) m6 k6 b6 (fun _ _ => rfl) key_lc (pa_cons (pe_lamC TB rfl rfl fun y hy e => .inl (key_l y hy e)) pa_nil)))
          (pss_cons (ps_if (pt_cmpR (op_eqD hu) (pv 13) pe_str (nomark _)) (pss_one (ps_ret pe_bl)) pss_nil)
          (pss_cons (ps_expr (pe_meth (pe_ix ix_list (pv 4) (pv 6) (fun _ _ => rfl)) X.cls Mb Gb0 r13 bb .nil pass0 (pa_cons pe_int pa_nil)))
          (pss_cons (ps_setLc (i := 12) (own := [("_law_one", 14)]) (g := gName 14) (tt := tYes) rfl nd rfl rfl (sw_true rfl rfl rfl (by decide +kernel)) (pi_list (pv 4)) (blkOk_by (own := [("_law_one", 14)]) (N := nmLaw) (sc := defScope s_law) (by decide +kernel)) (fun _ _ _ _ _ => pg_name (i := 14) nd rfl (Or.inl rfl)) (fun _ _ _ _ _ => pts_nil) (fun _ _ _ _ _ => pe_meth0 (pv 14) X.cls Mp Gp r3 bp .nil pass0))
          (pss_one (ps_if (pt_cmpR (op_neD hu) (pe_meth0 (pv 3) X.cls Mp Gp r3 bp .nil pass0) (pe_op op_cat (pe_op op_cat (pe_ix ix_list (pv 12) pe_int (fun _ _ => rfl)) (pe_lst (pa_cons (pe_tup (pa_cons pe_str pa_nil)) pa_nil))) (pe_ix ix_list (pv 12) pe_int (fun _ _ => rfl))) (nomark _)) (pss_one (ps_ret pe_bl)) pss_nil))))))))))
      (pss_one (ps_ret (pe_cmpR (op_eqD hu) (pe_meth0 (pv 3) X.cls Mp Gp r3 bp .nil pass0) (pe_lst (pa_cons (pe_tup (pa_cons pe_str pa_nil)) (pa_cons (pe_tup (pa_cons pe_str pa_nil)) (pa_cons (pe_tup (pa_cons pe_str pa_nil)) pa_nil)))) (nomark _))))))))))), ?_⟩
    have szl : (9000 : Nat) < sizeLine := by decide
    refine ⟨_, rfl, a, ns, rfl, hS, hl, fun b l H1 hB1 x1 nb nl => ?_⟩
    have e1 := same_ex x1 hT
    have t1 := e1.tab
    have mF : Mob H (fun _ => False) := fun c z => z.elim
    have L11 := tabS_kn (KN.same (cs := cs) x1) mF n1 hL1
    have L21 := tabS_kn (KN.same (cs := cs) x1) mF n2 hL2
    clear mF e1 hL1 hL2 hT hS
    refine ⟨_, rfl, b, l, rfl, hB1, fun st gap least H2 hB2 x2 nst hst g0 g1' l0 l1' => ?_⟩
    have t2 := tabs_km x2 hB1 t1
    have L12 := tabS_kn (kb_kn (cs := cs) x2) (box_mobT hB1) n1 L11
    have L22 := tabS_kn (kb_kn (cs := cs) x2) (box_mobT hB1) n2 L21
    clear t1 L11 L21 hB1 x2 nst x1 nb nl
    have lam : ∀ {H H' : Hp}, Ex cs H H' → LamX.TabS H p1 qD → LamX.TabS H p2 qL → LamX.TabS H' p1 qD ∧ LamX.TabS H' p2 qL := fun {H H'} x h1 h2 => by
      have mF : Mob H (fun _ => False) := fun c z => z.elim
      have kn : KN cs (fun _ => False) H H' := fun c u h n _ => x.any h n
      exact ⟨tabS_kn kn mF n1 h1, tabS_kn kn mF n2 h2⟩
    -- the table of both
    refine ⟨by show 1 ≤ sizeLine; decide, fun u0 nu0 => ⟨by show 1 ≤ sizeLine; decide, fun u1 nu1 => ⟨by show 1 ≤ sizeLine; decide, fun u2 nu2 => ⟨by show 3 ≤ sizeLine; decide, fun pg npg => ⟨_, rfl, fun tb dx ntb ndx nxt => ?_⟩⟩⟩⟩⟩
    have s0 := same_new (o := HO.tup [V.str ""]) nu0
    have s1 := same_new (o := HO.tup [V.str "between"]) nu1
    have s2 := same_new (o := HO.tup [V.str ""]) nu2
    have s3 := same_new (o := HO.lst [V.ref u0, V.ref u1, V.ref u2]) npg
    have PA : PageAt K (upd (upd (upd (upd H2 u0 (.tup [V.str ""])) u1 (.tup [V.str "between"])) u2 (.tup [V.str ""])) pg (.lst [V.ref u0, V.ref u1, V.ref u2])) pg [u0, u1, u2] [[""], ["between"], [""]] := by
      refine ⟨SqL.of upd_same, rfl, fun i q z h1 h2 => ?_⟩
      match i, h1, h2 with
      | 0, h1, h2 => cases h1; cases h2; exact SqT.of (s3 _ _ (s2 _ _ (s1 _ _ upd_same)))
      | 1, h1, h2 => cases h1; cases h2; exact SqT.of (s3 _ _ (s2 _ _ upd_same))
      | 2, h1, h2 => cases h1; cases h2; exact SqT.of (s3 _ _ upd_same)
      | j + 3, h1, _ => simp at h1
    have x3 := same_ex (same_trans (same_trans (same_trans s0 s1) s2) s3) t2
    generalize upd (upd (upd (upd H2 u0 (.tup [V.str ""])) u1 (.tup [V.str "between"])) u2 (.tup [V.str ""])) pg (.lst [V.ref u0, V.ref u1, V.ref u2]) = H3 at x3 PA ntb ndx nxt ⊢
    clear s0 s1 s2 s3 nu0 nu1 nu2 npg
    refine mkT x3.tab PA pgB ⟨SqT.of (x3.tup hst), g0, g1', l0, l1'⟩ (n := 2) (by decide) (by decide) ntb ndx fun am H4 x4 ow4 hD4 => ⟨rfl, ?_⟩
    have x24 := x3.trans x4
    obtain ⟨L14, L24⟩ := lam x24 L12 L22
    have hB4 := box_exT hB2 x24
    have hst4 := x24.tup hst
    have t4 := x24.tab
    have ow4 : ∀ c, ownT tb am c → H2 c = none ∧ H4 c ≠ none := fun c hc => ⟨x3.old _ (ow4 c hc).1, (ow4 c hc).2⟩
    rw [stK_start] at hD4
    clear PA x3 x4 ntb ndx nxt L12 L22
    -- the first alone
    refine ⟨by show 1 ≤ sizeLine; decide, fun u0 nu0 => ⟨by show 1 ≤ sizeLine; decide, fun pg npg => ⟨_, rfl, fun tb0 dx ntb ndx nxt => ?_⟩⟩⟩
    have s0 := same_new (o := HO.tup [V.str ""]) nu0
    have s1 := same_new (o := HO.lst [V.ref u0]) npg
    have PA := pageAt1 (K := K) (r := [""]) (upd_same (H := upd H4 u0 (.tup [V.str ""])) (a := pg) (o := .lst [V.ref u0])) (s1 _ _ upd_same)
    have x3 := same_ex (same_trans s0 s1) t4
    generalize upd (upd H4 u0 (.tup [V.str ""])) pg (.lst [V.ref u0]) = H5 at x3 PA ntb ndx nxt ⊢
    clear s0 s1 nu0 npg
    refine mkT x3.tab PA pgA ⟨SqT.of (x3.tup hst4), g0, g1', l0, l1'⟩ (n := 1) (by decide) (by decide) ntb ndx fun a0 H6 x4 ow6 hD6 => ⟨rfl, ?_⟩
    have x46 := x3.trans x4
    have ow6 : ∀ c, ownT tb0 a0 c → H4 c = none ∧ H6 c ≠ none := fun c hc => ⟨x3.old _ (ow6 c hc).1, (ow6 c hc).2⟩
    rw [stA_AL (h := 0)] at hD6
    clear PA x3 x4 ntb ndx nxt
    have hst6 := x46.tup hst4
    -- the second alone
    refine ⟨by show 1 ≤ sizeLine; decide, fun u0 nu0 => ⟨by show 1 ≤ sizeLine; decide, fun pg npg => ⟨_, rfl, fun tb1 dx ntb ndx nxt => ?_⟩⟩⟩
    have s0 := same_new (o := HO.tup [V.str ""]) nu0
    have s1 := same_new (o := HO.lst [V.ref u0]) npg
    have PA := pageAt1 (K := K) (r := [""]) (upd_same (H := upd H6 u0 (.tup [V.str ""])) (a := pg) (o := .lst [V.ref u0])) (s1 _ _ upd_same)
    have x3 := same_ex (same_trans s0 s1) x46.tab
    generalize upd (upd H6 u0 (.tup [V.str ""])) pg (.lst [V.ref u0]) = H7 at x3 PA ntb ndx nxt ⊢
    clear s0 s1 nu0 npg
    refine mkT x3.tab PA pgA ⟨SqT.of (x3.tup hst6), g0, g1', l0, l1'⟩ (n := 1) (by decide) (by decide) ntb ndx fun a1 H8 x4 ow8 hD8 => ⟨rfl, ?_⟩
    have x68 := x3.trans x4
    have ow8 : ∀ c, ownT tb1 a1 c → H6 c = none ∧ H8 c ≠ none := fun c hc => ⟨x3.old _ (ow8 c hc).1, (ow8 c hc).2⟩
    rw [stA_AL (h := 1)] at hD8
    clear PA x3 x4 ntb ndx nxt
    refine ⟨by show 2 ≤ sizeLine; decide, fun al nal => ?_⟩
    have x89 := Ex.laid (o := .lst [V.ref tb0, V.ref tb1]) x68.tab nal
    have als : upd H8 al (.lst [V.ref tb0, V.ref tb1]) al = some (.lst [V.ref tb0, V.ref tb1]) := upd_same
    generalize upd H8 al (.lst [V.ref tb0, V.ref tb1]) = H9 at x89 als ⊢
    have x69 := x68.trans x89
    have x49 := x46.trans x69
    let tz : Nat → Addr := fun i => if i = 0 then tb0 else if i = 1 then tb1 else tb
    let az : Nat → TA := fun i => if i = 0 then a0 else if i = 1 then a1 else am
    let S0 : Nat → TSt := fun i => if i = 2 then stK 0 else AL (xsO o0 [] i) (dsO o0 [] i) []
    have o9 : S3 cs B p1 p2 b l al tz az S0 H9 := by
      obtain ⟨L19, L29⟩ := lam x49 L14 L24
      have bx : ∀ c, c = b ∨ c = l → H2 c ≠ none := fun c z e => by
        rcases box_mobT hB2 c z with ⟨_, w⟩ | ⟨_, _, _, w⟩ <;> rw [e] at w <;> cases w
      have old : ∀ i, i < 3 → ∀ c, ownT (tz i) (az i) c → H2 c = none ∧ H8 c ≠ none := fun i hi c hc => by
        match i, hi, hc with
        | 0, _, hc => exact ⟨x24.old _ (ow6 c hc).1, fun e => (ow6 c hc).2 (x68.old _ e)⟩
        | 1, _, hc => exact ⟨x24.old _ (x46.old _ (ow8 c hc).1), (ow8 c hc).2⟩
        | 2, _, hc => exact ⟨(ow4 c hc).1, fun e => (ow4 c hc).2 (x46.old _ (x68.old _ e))⟩
      refine ⟨box_exT hB4 x49, fun i hi => ?_, x49.tab, L19, L29, als, fun i j hi hj n c h1 h2 => ?_, fun i hi c hc => ⟨fun e => bx c (.inl e) (old i hi c hc).1, fun e => bx c (.inr e) (old i hi c hc).1, fun e => (old i hi c hc).2 (e ▸ nal)⟩, ⟨fun e => bx al (.inl e) (x24.old _ (x46.old _ (x68.old _ nal))), fun e => bx al (.inr e) (x24.old _ (x46.old _ (x68.old _ nal)))⟩⟩
      · match i, hi with
        | 0, _ => exact TabD.ofEx hD6 x69
        | 1, _ => exact TabD.ofEx hD8 x89
        | 2, _ => exact TabD.ofEx hD4 x49
      · have d02 : ∀ c, ownT tb0 a0 c → ownT tb am c → False := fun c w1 w2 => (ow4 c w2).2 (ow6 c w1).1
        have d12 : ∀ c, ownT tb1 a1 c → ownT tb am c → False := fun c w1 w2 => (ow4 c w2).2 (x46.old _ (ow8 c w1).1)
        have d01 : ∀ c, ownT tb0 a0 c → ownT tb1 a1 c → False := fun c w1 w2 => (ow6 c w1).2 (ow8 c w2).1
        match i, j, hi, hj, n, h1, h2 with
        | 0, 0, _, _, n, _, _ => exact n rfl
        | 1, 1, _, _, n, _, _ => exact n rfl
        | 2, 2, _, _, n, _, _ => exact n rfl
        | 0, 1, _, _, _, h1, h2 => exact d01 c h1 h2
        | 1, 0, _, _, _, h1, h2 => exact d01 c h2 h1
        | 0, 2, _, _, _, h1, h2 => exact d02 c h1 h2
        | 2, 0, _, _, _, h1, h2 => exact d02 c h2 h1
        | 1, 2, _, _, _, h1, h2 => exact d12 c h1 h2
        | 2, 1, _, _, _, h1, h2 => exact d12 c h2 h1
    obtain ⟨ta, aa, hta, p9⟩ : ∃ (ta : Nat → Addr) (aa : Nat → TA), ta 2 = tb ∧ S3 cs B p1 p2 b l al ta aa (S9 0) H9 := ⟨tz, az, rfl, o9⟩
    clear ow4 ow6 ow8 hD4 hD6 hD8 als x89 x69 x49 x68 x46 x24 L14 L24 hB4 hB2 hst hst4 hst6 t2 t4 nal g0 g1' l0 l1'
    clear o9
    subst hta
    refine ⟨_, rfl, by decide, by decide, for_range (n := 9) (fun i σ H' => ∃ (c5 : Option V) (aa : Nat → TA), σ = [some (.ref a), some (.ref b), some (.ref st), some (.ref (ta 2)), some (.ref al), c5, none, none, none, none, none, none, none, none, none] ∧ S3 cs B p1 p2 b l al ta aa (S9 i) H') ⟨none, aa, rfl, p9⟩ ?_ ?_⟩
    · clear p9
      rintro i σ H' hi ⟨c5, aa, rfl, o⟩
      refine ⟨_, rfl, ta 2, (aa 2).dx, _, rfl, (o.tab 2 (by decide)).ob, rfl, tone_go ⟨ta 2, 1, aa 2, stK i, rfl, o.tbs, o.tab 2 (by decide), stK_ok (by omega), by show 1 < 2; decide, fun a' H2 kn ow t old td => ?_⟩⟩
      rw [stK_go hi] at td
      exact ⟨_, fset aa 2 a', rfl, (S3.went n1 n2 nn o (by decide) kn ow t td).cong (S9_step i)⟩
    clear p9
    rintro σ H10 ⟨c5, aa, rfl, o⟩
    refine ⟨_, rfl, ta 2, (aa 2).dx, _, rfl, (o.tab 2 (by decide)).ob, rfl, tone_go ⟨ta 2, 1, aa 2, stK 9, rfl, o.tbs, o.tab 2 (by decide), stK_ok (Nat.le_refl _), by show 1 < 2; decide, fun t H11 x11 ht => ⟨by show 3 ≤ sizeLine; decide, fun u0 nu0 => ?_⟩⟩⟩
    rw [at9.1] at ht
    refine ne_v3 (x := 2) (y := 0) (z := 0) (same_new nu0 _ _ ht) upd_same ⟨false, rfl, iteF ?_⟩
    have o := o.ex n1 n2 nn (x11.trans (Ex.laid (o := .tup [V.int 2, V.int 0, V.int 0]) x11.tab nu0))
    generalize upd H11 u0 (.tup [V.int 2, V.int 0, V.int 0]) = H12 at o ⊢
    clear ht nu0 x11
    refine ⟨_, rfl, ta 2, (aa 2).dx, _, rfl, (o.tab 2 (by decide)).ob, rfl, tone_go ⟨ta 2, 0, aa 2, stK 9, rfl, o.tbs, o.tab 2 (by decide), stK_ok (Nat.le_refl _), by show 0 < 2; decide, fun t H11 x11 ht => ⟨by show 3 ≤ sizeLine; decide, fun u0 nu0 => ?_⟩⟩⟩
    rw [at9.2] at ht
    refine ne_v3 (x := 0) (y := 0) (z := 0) (same_new nu0 _ _ ht) upd_same ⟨false, rfl, iteF ?_⟩
    have o := o.ex n1 n2 nn (x11.trans (Ex.laid (o := .tup [V.int 0, V.int 0, V.int 0]) x11.tab nu0))
    generalize upd H11 u0 (.tup [V.int 0, V.int 0, V.int 0]) = H13 at o ⊢
    clear ht nu0 x11
    have o := o.cong S9_SaR
    -- sixty-one turns
    refine ⟨_, rfl, b, l, 61, rfl, o.box, by decide, by decide, fun tn H14 tn0 tn1 hB14 x14 => ⟨tn, rfl, by omega, by omega, ?_⟩⟩
    have o14 := o.draw n1 n2 hB14 x14
    clear o
    refine for_range (n := tn.toNat) (fun i σ H' => ∃ (c5 c6 c7 c8 c9 c10 c11 c12 c13 c14 : Option V) (aa : Nat → TA) (oo : Nat → List Nat) (Ss : List Str) (D : List Deed) (u v : Nat → List Nat), σ = [some (.ref a), some (.ref b), some (.ref st), some (.ref (ta 2)), some (.ref al), c5, c6, c7, c8, c9, c10, c11, c12, c13, c14] ∧ Rel i oo Ss D u v ∧ PgOk (pageR (sgB Ss) (orB oo) D) ∧ S3 cs B p1 p2 b l al ta aa (SaR oo Ss D u v) H')
      ⟨_, _, _, _, _, _, _, _, _, _, aa, o0, [], [], o0, o0, rfl, rel0, pg0, o14⟩ ?_ ?_
    · clear o14
      rintro i σ H15 hi ⟨c5, c6, c7, c8, c9, c10, c11, c12, c13, c14, aa, oo, Ss, D, u, v, rfl, R, pg, o⟩
      have hN : i ≤ 89 := by omega
      refine ⟨_, rfl, b, l, 2, rfl, o.box, by decide, by decide, fun hd H16 hd0 hd1 hB16 x16 => ⟨_, rfl, b, l, 9, rfl, hB16, by decide, by decide, fun wy H17 w0 w1 hB17 x17 => ⟨by show 2 ≤ sizeLine; decide, fun pt npt => ⟨pt, _, rfl, .inl (.inl upd_same), rfl, _, _, rfl, _, _, rfl, rfl, ?_⟩⟩⟩⟩
      obtain ⟨h, rfl⟩ := Int.eq_ofNat_of_zero_le hd0
      obtain ⟨wy, rfl⟩ := Int.eq_ofNat_of_zero_le w0
      have h2 : h < 2 := by omega
      have o := (o.draw n1 n2 hB16 x16).draw n1 n2 hB17 x17
      have o := o.ex n1 n2 nn (Ex.laid (o := .tup [V.int (h : Nat), V.int (wy : Nat)]) o.tbs npt)
      generalize upd H17 pt (.tup [V.int (h : Nat), V.int (wy : Nat)]) = H18 at o ⊢
      clear npt x17 x16 hB16 hB17
      -- what sign
      refine ⟨_, rfl, b, l, rfl, o.box, fun c0 H19 hc0 hB19 x19 => ⟨_, rfl, b, l, 10, rfl, hB19, by decide, by decide, fun dg H20 dg0 dg1 hB20 x20 => ?_⟩⟩
      have o := (o.draw n1 n2 hB19 x19).draw n1 n2 hB20 x20
      obtain ⟨dc, hdc, edc⟩ := pick (xs := cl ("0123456789" : Str)) (i := dg) dg0 (by rw [show (cl ("0123456789" : Str)).length = 10 by decide +kernel]; exact dg1)
      refine ⟨_, _, dc, rfl, rfl, by decide, edc, ⟨by show 4 ≤ sizeLine; decide, fun sl nsl => ⟨_, rfl, b, l, 4, rfl, ?_⟩⟩⟩
      have hsl : upd H20 sl (.lst [V.str "\n", V.str "\t", V.str ⟨#[c0]⟩, V.str ⟨#[dc]⟩]) sl = some (.lst ((["\n", "\t", ⟨#[c0]⟩, ⟨#[dc]⟩] : List Str).map V.str)) := upd_same
      have nsb := new_ne o.box nsl
      have o := o.ex n1 n2 nn (Ex.laid (o := .lst [V.str "\n", V.str "\t", V.str ⟨#[c0]⟩, V.str ⟨#[dc]⟩]) o.tbs nsl)
      generalize upd H20 sl (.lst [V.str "\n", V.str "\t", V.str ⟨#[c0]⟩, V.str ⟨#[dc]⟩]) = H21 at o hsl ⊢
      refine ⟨o.box, by decide, by decide, fun si H22 si0 si1 hB22 x22 => ?_⟩
      obtain ⟨sg, hsg, esg⟩ := pick (xs := (["\n", "\t", ⟨#[c0]⟩, ⟨#[dc]⟩] : List Str)) (i := si) si0 si1
      have msg : MarkOk sg := by
        simp only [List.mem_cons, List.not_mem_nil, or_false] at hsg
        rcases hsg with e | e | e | e
        · exact .inr (.inl e)
        · exact .inl e
        · exact .inr (.inr ⟨c0, e, hc0⟩)
        · refine .inr (.inr ⟨dc, e, ?_⟩)
          have e9 : cl ("0123456789" : Str) = [48, 49, 50, 51, 52, 53, 54, 55, 56, 57] := by decide +kernel
          rw [e9] at hdc
          simp only [List.mem_cons, List.not_mem_nil, or_false] at hdc
          unfold SgOk
          omega
      have o := o.draw n1 n2 hB22 x22
      refine ⟨sl, _, _, .str sg, rfl, rfl, SqL.of (x22 sl _ hsl nsb.1 nsb.2), atI_map (f := V.str) esg, ?_⟩
      clear hsl nsb nsl edc hdc hsg esg hB22 x22 hB20 x20 hB19 x19 hc0
      -- what deed
      refine ⟨by show 1 ≤ sizeLine; decide, fun y0 ny0 => ⟨by show 1 ≤ sizeLine; decide, fun y1 ny1 => ⟨by show 1 ≤ sizeLine; decide, fun y2 ny2 => ⟨by show 1 ≤ sizeLine; decide, fun y3 ny3 => ⟨_, rfl, by show 2 ≤ sizeLine; decide, fun y4 ny4 => ⟨by show 5 ≤ sizeLine; decide, fun yl nyl => ?_⟩⟩⟩⟩⟩⟩
      have s0 := same_new (o := HO.tup [V.str "rub"]) ny0
      have s1 := same_new (o := HO.tup [V.str "back"]) ny1
      have s2 := same_new (o := HO.tup [V.str "back"]) ny2
      have s3 := same_new (o := HO.tup [V.str "again"]) ny3
      have s4 := same_new (o := HO.tup [V.str "press", V.str sg]) ny4
      have s5 := same_new (o := HO.lst [V.ref y0, V.ref y1, V.ref y2, V.ref y3, V.ref y4]) nyl
      have fy0 := s5 _ _ (s4 _ _ (s3 _ _ (s2 _ _ (s1 _ _ (upd_same (H := H22) (a := y0) (o := HO.tup [V.str "rub"]))))))
      have fy1 := s5 _ _ (s4 _ _ (s3 _ _ (s2 _ _ (upd_same (H := upd H22 y0 (.tup [V.str "rub"])) (a := y1) (o := HO.tup [V.str "back"])))))
      have fy2 := s5 _ _ (s4 _ _ (s3 _ _ (upd_same (H := upd (upd H22 y0 (.tup [V.str "rub"])) y1 (.tup [V.str "back"])) (a := y2) (o := HO.tup [V.str "back"]))))
      have fy3 := s5 _ _ (s4 _ _ (upd_same (H := upd (upd (upd H22 y0 (.tup [V.str "rub"])) y1 (.tup [V.str "back"])) y2 (.tup [V.str "back"])) (a := y3) (o := HO.tup [V.str "again"])))
      have fy4 := s5 _ _ (upd_same (H := upd (upd (upd (upd H22 y0 (.tup [V.str "rub"])) y1 (.tup [V.str "back"])) y2 (.tup [V.str "back"])) y3 (.tup [V.str "again"])) (a := y4) (o := HO.tup [V.str "press", V.str sg]))
      have fyl := upd_same (H := upd (upd (upd (upd (upd H22 y0 (.tup [V.str "rub"])) y1 (.tup [V.str "back"])) y2 (.tup [V.str "back"])) y3 (.tup [V.str "again"])) y4 (.tup [V.str "press", V.str sg])) (a := yl) (o := HO.lst [V.ref y0, V.ref y1, V.ref y2, V.ref y3, V.ref y4])
      have xS := same_ex (same_trans (same_trans (same_trans (same_trans (same_trans s0 s1) s2) s3) s4) s5) o.tbs
      generalize upd (upd (upd (upd (upd (upd H22 y0 (.tup [V.str "rub"])) y1 (.tup [V.str "back"])) y2 (.tup [V.str "back"])) y3 (.tup [V.str "again"])) y4 (.tup [V.str "press", V.str sg])) yl (.lst [V.ref y0, V.ref y1, V.ref y2, V.ref y3, V.ref y4]) = H23 at fy0 fy1 fy2 fy3 fy4 fyl xS ⊢
      have o := o.ex n1 n2 nn xS
      clear s0 s1 s2 s3 s4 s5 xS ny0 ny1 ny2 ny3 ny4 nyl
      obtain ⟨wt, wh, hv, hwt, hwp⟩ : ∃ (wt : Addr) (wh : What), atI ([V.ref y0, V.ref y1, V.ref y2, V.ref y3, V.ref y4] : List V) (if ((wy : Nat) : Int) < 4 then ((wy : Nat) : Int) else 4) = some (.ref wt) ∧ H23 wt = some (.tup wh.vals) ∧ ∀ s, wh = .press s → MarkOk s := by
        by_cases c : wy < 4
        · rw [if_pos (by omega)]
          match wy, c with
          | 0, _ => exact ⟨y0, .rub, rfl, fy0, fun s e => nomatch e⟩
          | 1, _ => exact ⟨y1, .back, rfl, fy1, fun s e => nomatch e⟩
          | 2, _ => exact ⟨y2, .back, rfl, fy2, fun s e => nomatch e⟩
          | 3, _ => exact ⟨y3, .again, rfl, fy3, fun s e => nomatch e⟩
        · rw [if_neg (by omega)]
          exact ⟨y4, .press sg, rfl, fy4, fun s e => by cases e; exact msg⟩
      refine ⟨_, rfl, 4, _, rfl, yl, _, _, .ref wt, rfl, rfl, SqL.of fyl, hv, ?_⟩
      clear fy0 fy1 fy2 fy3 fy4 fyl hv msg
      have hv0 : wh.vals[0]? = some (.str wh.word) := by cases wh <;> rfl
      refine' cutG _ (fun vv H' => ∃ (wt : Addr) (wh : What), vv = .ref wt ∧ H' wt = some (.tup wh.vals) ∧ (∀ s, wh = .press s → MarkOk s) ∧ (wh = .rub → hereO oo D h ≠ []) ∧ S3 cs B p1 p2 b l al ta aa (SaR oo Ss D u v) H') (fun rest => _) _
      rotate_left
      · have hal : ([V.ref (ta 0), V.ref (ta 1)] : List V)[h]? = some (.ref (ta h)) := by
          have h3 : h = 0 ∨ h = 1 := by omega
          rcases h3 with e | e <;> rw [e] <;> rfl
        refine ⟨_, rfl, wt, _, 0, .str wh.word, rfl, rfl, SqT.of hwt, atI_nat (j := 0) hv0, rfl, _, rfl, ?_⟩
        by_cases hr : wh = .rub
        · subst hr
          refine iteT ⟨_, rfl, _, rfl, al, _, _, .ref (ta h), rfl, rfl, SqL.of o.als, atI_nat hal, ta h, (aa h).dx, _, rfl, (o.tab h (by omega)).ob, rfl, ?_⟩
          have tA := o.tab h (by omega)
          rw [SaR_h h2] at tA
          refine tone_go ⟨ta h, 0, aa h, _, rfl, o.tbs, tA, R.tokA (by omega) h2, by show 0 < 1; decide, fun t0 H24 x24 ht => ⟨by show 3 ≤ sizeLine; decide, fun u0 nu0 => ?_⟩⟩
          refine eq_v3 (same_new nu0 _ _ ht) upd_same fun e he => ⟨e, rfl, ?_⟩
          have x25 := x24.trans (Ex.laid (o := .tup [V.int 0, V.int 0, V.int 0]) x24.tab nu0)
          have o := o.ex n1 n2 nn x25
          have hwt := x25.tup hwt
          generalize upd H24 u0 (.tup [V.int 0, V.int 0, V.int 0]) = H25 at o hwt ⊢
          clear x24 x25 nu0 ht tA
          cases e with
          | false =>
            refine iteF ?_
            obtain ⟨vv, hvv⟩ : ∃ vv : V, vv = .ref wt := ⟨_, rfl⟩
            rw [← hvv]
            have hne : hereO oo D h ≠ [] := fun hn => by
              have z := he (by rw [at_none R.two hn]; rfl) (by rw [at_none R.two hn]; rfl) (by rw [at_none R.two hn]; rfl)
              cases z
            exact rest vv H25 ⟨wt, .rub, hvv, hwt, hwp, fun _ => hne, o⟩
          | true =>
            refine iteT ⟨by show 1 ≤ sizeLine; decide, fun wa nwa => ?_⟩
            have o := o.ex n1 n2 nn (Ex.laid (o := .tup [V.str "again"]) o.tbs nwa)
            have hwa : upd H25 wa (.tup [V.str "again"]) wa = some (.tup [V.str "again"]) := upd_same
            generalize upd H25 wa (.tup [V.str "again"]) = H26 at o hwa ⊢
            obtain ⟨vv, hvv⟩ : ∃ vv : V, vv = .ref wa := ⟨_, rfl⟩
            rw [← hvv]
            exact rest vv H26 ⟨wa, .again, hvv, hwa, (fun s e => nomatch e), (fun e => nomatch e), o⟩
        · have ew : decide (V.str wh.word = V.str "rub") = false := decide_eq_false fun e => hr (by
            cases wh with
            | rub => rfl
            | press s => injection e with e; exact absurd e (show ("press" : Str) ≠ "rub" by decide)
            | back => injection e with e; exact absurd e (show ("back" : Str) ≠ "rub" by decide)
            | again => injection e with e; exact absurd e (show ("again" : Str) ≠ "rub" by decide))
          rw [ew]
          refine iteF ?_
          obtain ⟨vv, hvv⟩ : ∃ vv : V, vv = .ref wt := ⟨_, rfl⟩
          rw [← hvv]
          exact rest vv H23 ⟨wt, wh, hvv, hwt, hwp, fun e => absurd e hr, o⟩
      clear hwt hwp hv0 o
      rintro v0 H26 ⟨wt, wh, rfl, hwt, hwp, hwr, o⟩
      have hM := o.tab 2 (by decide)
      rw [SaR_2] at hM
      have hal : ([V.ref (ta 0), V.ref (ta 1)] : List V)[h]? = some (.ref (ta h)) := by
        have h3 : h = 0 ∨ h = 1 := by omega
        rcases h3 with e | e <;> rw [e] <;> rfl
      obtain ⟨pM, pA, stp⟩ := step_all R hN h2 wh hwp hwr
      refine' cutG _ (fun vv H' => (vv = .non ∨ (∃ b, vv = .bl b) ∨ vv = .str "refused") ∧ ∃ (aa : Nat → TA) (oo : Nat → List Nat) (Ss : List Str) (D : List Deed) (u v : Nat → List Nat), Rel (i + 1) oo Ss D u v ∧ PgOk (pageR (sgB Ss) (orB oo) D) ∧ S3 cs B p1 p2 b l al ta aa (SaR oo Ss D u v) H') (fun rest => _) _
      rotate_left
      · refine ⟨_, rfl, _, rfl, _, rfl, ta 2, wt, h, aa 2, _, wh, rfl, o.tbs, o.l1, hM, R.tokM (by omega), h2, hwt, pM, fun r er a1 H27 kn1 ow1 t1 q1 old1 td1 => ?_, fun er H27 kn1 t1 q1 old1 => ?_⟩
        · obtain ⟨vv, hvv⟩ : ∃ vv : V, vv = r.1 := ⟨_, rfl⟩
          rw [← hvv]
          obtain ⟨val, o', Ss', D', u', v', eM, eA, R', oth, pg', hval⟩ := stp.resolve_left (fun e => by rw [e] at er; cases er)
          rw [eM] at er
          cases er
          have hvv : vv = val := hvv
          subst hvv
          have oS := o.goes n2 nn (by decide) kn1 ow1 t1 q1 td1
          have h3 : h ≠ 2 := by omega
          have e3 : fset aa 2 a1 h = aa h := fset_ne h3
          have hA1 := oS.tab h (by omega)
          rw [e3, fset_ne h3, SaR_h h2] at hA1
          have hwt1 := tup_km kn1.w (o.tab 2 (by decide)).mob hwt
          refine ⟨_, rfl, _, rfl, al, _, _, .ref (ta h), rfl, rfl, SqL.of oS.als, atI_nat hal, _, rfl, ta h, wt, 0, aa h, _, wh, rfl, oS.tbs, oS.l1, hA1, R.tokA (by omega) h2, by show 0 < 1; decide, hwt1, pA, fun r2 er2 a2 H28 kn2 ow2 t2 q2 old2 td2 => ?_, fun er2 => by rw [eA] at er2; cases er2⟩
          obtain ⟨ww, hww⟩ : ∃ ww : V, ww = r2.1 := ⟨_, rfl⟩
          rw [← hww]
          rw [eA] at er2
          cases er2
          have hww : ww = vv := hww
          subst hww
          have o2 := oS.goes n2 nn (i := h) (by omega) (by rw [e3]; exact kn2) (by rw [e3]; exact ow2) t2 q2 td2
          refine ⟨_, _, rfl, ?_⟩
          exact rest ww H28 ⟨hval.imp id .inl, _, o', Ss', D', u', v', R', pg' pg, o2.cong (SaR_step h2 oth)⟩
        · have oS := o.still n2 nn kn1 t1 q1
          have hA1 := oS.tab h (by omega)
          rw [SaR_h h2] at hA1
          have hwt1 := kn1 wt _ hwt (.inl fun ps z => nomatch z) (fun z => z)
          refine ⟨_, rfl, _, rfl, al, _, _, .ref (ta h), rfl, rfl, SqL.of oS.als, atI_nat hal, _, rfl, ta h, wt, 0, aa h, _, wh, rfl, oS.tbs, oS.l1, hA1, R.tokA (by omega) h2, by show 0 < 1; decide, hwt1, pA, fun r2 er2 a2 H28 kn2 ow2 t2 q2 old2 td2 => ?_, fun er2 H28 kn2 t2 q2 old2 => ?_⟩
          · have hv := step_val er2
            exact ⟨_, _, rfl, _, rfl, _, rfl, ne_ref hv ⟨true, rfl, iteT ⟨_, rfl, tC_go (eq_str ⟨true, rfl, iteT (k _)⟩)⟩⟩⟩
          · refine ⟨_, _, rfl, ?_⟩
            exact rest (.str "refused") H28 ⟨.inr (.inr rfl), aa, oo, Ss, D, u, v, R.up, pg, oS.still n2 nn kn2 t2 q2⟩
      clear hM hal pM pA stp hwt hwp hwr
      rintro v0 H28 ⟨hv0, aa, oo, Ss, D, u, v, R, pg, o⟩
      refine ⟨_, rfl, _, rfl, ne_val hv0 ⟨false, rfl, iteF (iteF ?_)⟩⟩
      refine ⟨_, rfl, al, rfl, ⟨_, SqL.of o.als⟩, fun Dd nDd => pages_lc (n := 14) n1 n2 nn o (fun j hj => by rw [SaR_h hj]; exact R.tokA (by omega) hj) nDd (fun j H' Q' hj o' q => ⟨_, rfl, ta j, (aa j).dx, _, rfl, (o'.tab j (by omega)).ob, rfl, q⟩) (fun _ _ => rfl) fun r0 r1 q0 q1 H29 x29 hDd g0 g1 => ?_⟩
      have o29 := o.ex n1 n2 nn x29
      have hM := o29.tab 2 (by decide)
      rw [SaR_2] at hM
      rw [SaR_h (by decide), rowsG_A R.two] at g0 g1
      refine ⟨_, rfl, _, rfl, ne_val hv0 ⟨false, rfl, iteF ⟨_, rfl, ta 2, (aa 2).dx, _, rfl, hM.ob, rfl, tnil_go ⟨ta 2, aa 2, _, rfl, o29.tbs, hM, R.tokM (by omega), fun r ps H30 x30 nr hr hps => ?_⟩⟩⟩⟩
      have hps : RowsAt ps (rowsT (txO oo Ss D 0) ++ ([["between"]] : List (List Str)) ++ rowsT (txO oo Ss D 1)) H30 := by
        have e : RowsAt ps (rowsG (TM oo Ss D u)) H30 := hps
        rw [rowsG_M R.two] at e
        exact e
      refine cat_ne (Dd := Dd) rfl x30.tab (x30.lst hDd) (g0.ex x30) (g1.ex x30) ⟨hr, hps⟩ (pg_rowsM R.two pg) fun H31 x31 => ⟨false, rfl, iteF ?_⟩
      exact ⟨_, _, _, _, _, _, _, _, _, _, aa, oo, Ss, D, u, v, rfl, R, pg, (o29.ex n1 n2 nn x30).ex n1 n2 nn x31⟩
    clear o14
    rintro σ H14 ⟨c5, c6, c7, c8, c9, c10, c11, c12, c13, c14, aa, oo, Ss, D, u, v, rfl, R, pg, o⟩
    have hN0 : tn.toNat ≤ 60 := by omega
    have cnle : ∀ {oo : Nat → List Nat} {Ss : List Str} {D : List Deed} {q : Nat}, Two oo Ss D → cnR (dsO oo D q) ≤ 100 := fun {oo Ss D q} tw => Nat.le_trans (stR_len _ _ _) (Nat.le_trans dsO_le tw.lD)
    -- taking all back
    refine ⟨_, rfl, by decide, by decide, for_range (n := 2) (fun j σ H' => ∃ (c5 c6 c7 c8 c9 c10 c11 c12 c13 c14 : Option V) (aa : Nat → TA) (oo : Nat → List Nat) (Ss : List Str) (D : List Deed) (u v : Nat → List Nat) (N : Nat), σ = [some (.ref a), some (.ref b), some (.ref st), some (.ref (ta 2)), some (.ref al), c5, c6, c7, c8, c9, c10, c11, c12, c13, c14] ∧ Rel N oo Ss D u v ∧ PgOk (pageR (sgB Ss) (orB oo) D) ∧ S3 cs B p1 p2 b l al ta aa (SaR oo Ss D u v) H' ∧ (∀ q, q < j → cnR (dsO oo D q) = 0) ∧ N ≤ 60 + 101 * j)
      ⟨_, _, _, _, _, _, _, _, _, _, aa, oo, Ss, D, u, v, _, rfl, R, pg, o, fun q hq => absurd hq (Nat.not_lt_zero q), hN0⟩ ?_ ?_⟩
    · clear R pg o
      rintro h σ H15 h2 ⟨c5, c6, c7, c8, c9, c10, c11, c12, c13, c14, aa, oo, Ss, D, u, v, N, rfl, R, pg, o, hz, hN⟩
      rw [show (0 : Int) + (h : Nat) = (h : Nat) from Int.zero_add _]
      have hal : ([V.ref (ta 0), V.ref (ta 1)] : List V)[h]? = some (.ref (ta h)) := by
        have h3 : h = 0 ∨ h = 1 := by omega
        rcases h3 with e | e <;> rw [e] <;> rfl
      have h3 : h ≠ 2 := by omega
      refine ⟨fun m σ H' => ∃ (c5 c7 c8 c9 c10 c11 c12 c14 : Option V) (told : Bool) (aa : Nat → TA) (oo : Nat → List Nat) (Ss : List Str) (D : List Deed) (u v : Nat → List Nat) (N : Nat), σ = [some (.ref a), some (.ref b), some (.ref st), some (.ref (ta 2)), some (.ref al), c5, some (.int (h : Nat)), c7, c8, c9, c10, c11, c12, some (.bl told), c14] ∧ Rel N oo Ss D u v ∧ PgOk (pageR (sgB Ss) (orB oo) D) ∧ S3 cs B p1 p2 b l al ta aa (SaR oo Ss D u v) H' ∧ (∀ q, q < h → cnR (dsO oo D q) = 0) ∧ N + m ≤ 60 + 101 * (h + 1) ∧ ((told = true ∧ m = cnR (dsO oo D h) + 1) ∨ (told = false ∧ cnR (dsO oo D h) = 0)),
        ⟨_, _, _, _, _, _, _, _, _, true, aa, oo, Ss, D, u, v, N, rfl, R, pg, o, hz, (by have := cnle (q := h) R.two; omega), .inl ⟨rfl, rfl⟩⟩, ?_⟩
      clear R pg o hz hN
      rintro m σ H16 ⟨c5, c7, c8, c9, c10, c11, c12, c14, told, aa, oo, Ss, D, u, v, N, rfl, R, pg, o, hz, hN, hm⟩
      refine ⟨_, rfl, told, rfl, ?_⟩
      cases told with
      | false =>
        have h0 : cnR (dsO oo D h) = 0 := by
          rcases hm with ⟨e, _⟩ | ⟨_, e⟩
          · cases e
          · exact e
        exact iteF ⟨_, _, _, _, _, _, _, _, _, _, aa, oo, Ss, D, u, v, N, rfl, R, pg, o, fun q hq => by
          by_cases c : q = h
          · rw [c]; exact h0
          · exact hz q (by omega), by omega⟩
      | true =>
        have hm : m = cnR (dsO oo D h) + 1 := by
          rcases hm with ⟨_, e⟩ | ⟨e, _⟩
          · exact e
          · cases e
        refine iteT ⟨fun σ' H' => ∃ m', m' < m ∧ _, fun σ' H' q => q, ?_⟩
        refine ⟨o.l2, fun f1 cc H17 e1 e2 t1 nf hf hc cl Tc un => ?_⟩
        have lm : Lm p2 H16 H17 := ⟨e1, e2⟩
        have o1 := o.lamC n2 nn lm t1
        have hf' : HfL f1 _ _ H17 := ⟨hf, hc⟩
        have hM := o1.tab 2 (by decide)
        rw [SaR_2] at hM
        obtain ⟨pM, pA, stp⟩ := step_back R h2
        refine could4 (it := 3) (ih := 6) Tc un rfl rfl rfl rfl rfl (hf'.add un) (lok_l X Mb Gb bb) hM up (fun Z E' k1 k2 => run_back o1.tbs hM (R.tokM9 (by omega)) h2 pM k1 k2) ⟨fun r er a1 H18 kn1 ow1 t1 old1 td1 hu18 _ => ?_, fun er H18 x18 hu18 _ => ?_⟩
        · rw [del_add hu18]
          obtain ⟨vv, hvv⟩ : ∃ vv : V, vv = r.1 := ⟨_, rfl⟩
          rw [← hvv]
          obtain ⟨val, o', Ss', D', u', v', eM, eA, R', oth, pg', hval⟩ := stp.resolve_left (fun e => by rw [e] at er; cases er)
          rw [eM] at er
          cases er
          have hvv : vv = val := hvv
          subst hvv
          have oS := S3.went n1 n2 nn o1 (by decide) kn1 ow1 t1 td1
          have e3 : fset aa 2 a1 h = aa h := fset_ne h3
          have hA1 := oS.tab h (by omega)
          rw [e3, fset_ne h3, SaR_h h2] at hA1
          have bv := back_val eA
          refine ⟨_, rfl, tC_go (eq_ref hval ⟨false, rfl, iteF ?_⟩)⟩
          refine ⟨_, rfl, _, rfl, al, _, _, .ref (ta h), rfl, rfl, SqL.of oS.als, atI_nat hal, ta h, (aa h).dx, _, rfl, hA1.ob, rfl, tone_go ?_⟩
          refine run_back (h := 0) oS.tbs hA1 (R.tokA9 (by omega) h2) (by show 0 < 1; decide) pA (fun r2 er2 a2 H19 kn2 ow2 t2 old2 td2 => ?_) (fun er2 => by rw [eA] at er2; cases er2)
          rw [eA] at er2
          cases er2
          have o2 := (S3.went n1 n2 nn oS (i := h) (by omega) (by rw [e3]; exact kn2) (by rw [e3]; exact ow2) t2 td2).cong (SaR_step h2 oth)
          generalize fset (fset aa 2 a1) h a2 = ab at o2 ⊢
          have pg := pg' pg
          have hz' : ∀ q, q < h → cnR (dsO o' D' q) = 0 := fun q hq => by rw [(oth q (by omega)).2.1]; exact hz q hq
          have bc := cnle (q := h) R'.two
          clear td2 td1 old1 old2 kn1 kn2 ow1 ow2 hA1 hM oS o1 o lm un hf' Tc hu18 pM pA stp eM eA
          refine ⟨_, rfl, al, rfl, ⟨_, SqL.of o2.als⟩, fun Dd nDd => pages_lc (n := 14) n1 n2 nn o2 (fun j hj => by rw [SaR_h hj]; exact R'.tokA9 (by omega) hj) nDd (fun j H' Q' hj o' q => ⟨_, rfl, ta j, (ab j).dx, _, rfl, (o'.tab j (by omega)).ob, rfl, q⟩) (fun _ _ => rfl) fun r0 r1 q0 q1 H29 x29 hDd g0 g1 => ?_⟩
          have o29 := o2.ex n1 n2 nn x29
          have hM := o29.tab 2 (by decide)
          rw [SaR_2] at hM
          rw [SaR_h (by decide), rowsG_A R'.two] at g0 g1
          refine ⟨_, rfl, ta 2, (ab 2).dx, _, rfl, hM.ob, rfl, tnil_go ⟨ta 2, ab 2, _, rfl, o29.tbs, hM, R'.tokM9 (by omega), fun r ps H30 x30 nr hr hps => ?_⟩⟩
          have hps : RowsAt ps (rowsT (txO o' Ss' D' 0) ++ ([["between"]] : List (List Str)) ++ rowsT (txO o' Ss' D' 1)) H30 := by
            have e : RowsAt ps (rowsG (TM o' Ss' D' u')) H30 := hps
            rw [rowsG_M R'.two] at e
            exact e
          refine cat_ne (Dd := Dd) rfl x30.tab (x30.lst hDd) (g0.ex x30) (g1.ex x30) ⟨hr, hps⟩ (pg_rowsM R'.two pg) fun H31 x31 => ⟨false, rfl, iteF ?_⟩
          have o31 := (o29.ex n1 n2 nn x30).ex n1 n2 nn x31
          rcases bv with ⟨ev, lt⟩ | ⟨ev, h0⟩
          · subst ev
            exact ⟨cnR (dsO o' D' h) + 1, by omega, _, _, _, _, _, _, _, _, true, ab, o', Ss', D', u', v', N + 1, rfl, R', pg, o31, hz', by omega, .inl ⟨rfl, rfl⟩⟩
          · subst ev
            exact ⟨0, by omega, _, _, _, _, _, _, _, _, false, ab, o', Ss', D', u', v', N + 1, rfl, R', pg, o31, hz', by omega, .inr ⟨rfl, h0⟩⟩
        · rw [del_add hu18]
          exact ⟨_, rfl, tC_go (eq_str ⟨true, rfl, iteT (k _)⟩)⟩
    clear R pg o
    rintro σ H15 ⟨c5, c6, c7, c8, c9, c10, c11, c12, c13, c14, aa, oo, Ss, D, u, v, N, rfl, R, pg, o, hz, hN⟩
    have hM := o.tab 2 (by decide)
    rw [SaR_2] at hM
    refine ⟨_, rfl, ta 2, (aa 2).dx, _, rfl, hM.ob, rfl, tnil_go ⟨ta 2, aa 2, _, rfl, o.tbs, hM, R.tokM9 (by omega), fun r ps H30 x30 nr hr hps => ⟨by show 1 ≤ sizeLine; decide, fun u0 nu0 => ⟨by show 1 ≤ sizeLine; decide, fun u1 nu1 => ⟨by show 1 ≤ sizeLine; decide, fun u2 nu2 => ⟨by show 3 ≤ sizeLine; decide, fun pgl npg => ?_⟩⟩⟩⟩⟩⟩
    have hps : RowsAt ps ([[""], ["between"], [""]] : List (List Str)) H30 := by
      have e : RowsAt ps (rowsG (TM oo Ss D u)) H30 := hps
      rw [end_rows R.two (hz 0 (by decide)) (hz 1 (by decide))] at e
      exact e
    have s0 := same_new (o := HO.tup [V.str ""]) nu0
    have s1 := same_new (o := HO.tup [V.str "between"]) nu1
    have s2 := same_new (o := HO.tup [V.str ""]) nu2
    have s3 := same_new (o := HO.lst [V.ref u0, V.ref u1, V.ref u2]) npg
    have sS := same_trans (same_trans (same_trans s0 s1) s2) s3
    refine eq_pg (ps := ps) (qs := [u0, u1, u2]) pgB (PgAt.ex (cs := cs) ⟨hr, hps⟩ (same_ex sS x30.tab)) ⟨upd_same, rfl, fun i q z h1 h2 => ?_⟩ (k _)
    match i, h1, h2 with
    | 0, h1, h2 => cases h1; cases h2; exact s3 _ _ (s2 _ _ (s1 _ _ upd_same))
    | 1, h1, h2 => cases h1; cases h2; exact s3 _ _ (s2 _ _ upd_same)
    | 2, h1, h2 => cases h1; cases h2; exact s3 _ _ upd_same
    | j + 3, h1, _ => simp at h1
end
end TG

namespace TG
open PySem PySem.Spec PyProof.Rows L2
/-! ### the head -/
def dd (i : Nat) (x : Str) : He.DefD := ⟨(x, none), x, x, defArgs (top i), defBody (top i), defScope (top i), [], []⟩
def dm (c i : Nat) (C m : Str) : He.DefD := ⟨(C, some m), m, C ++ "." ++ m, defArgs (mth c i), defBody (mth c i), defScope (mth c i), [], []⟩
def fnL : List He.DefD := [dd 20 "is_whole", dd 21 "is_sign", dd 22 "is_text_of_signs", dd 23 "is_filled", dd 24 "is_row", dd 25 "first_misfit", dd 26 "check_page", dd 27 "check_style", dd 29 "written", dd 30 "rows_of", dd 34 "check_mark", dd 35 "marks_there", dd 36 "those_there", dd 37 "text_of", dd 38 "first_there", dd 40 "_law_begun", dd 41 "_law_take", dd 42 "_law_alike", dd 43 "_law_sign", dd 44 "_law_cell", dd 45 "_law_row", dd 46 "_law_page", dd 47 "_law_style", dd 48 "_law_could", dd 49 "_law_done", dd 50 "law", dm 33 0 "Table" "__init__", dm 33 1 "Table" "press", dm 33 2 "Table" "rub", dm 33 3 "Table" "back", dm 33 4 "Table" "again", dm 33 6 "Table" "right", dm 33 7 "Table" "at", dm 33 8 "Table" "page", dm 33 11 "Table" "check_hand", dm 33 12 "Table" "present", dm 33 13 "Table" "near", dm 33 14 "Table" "go", dm 33 15 "Table" "turn", dm 33 16 "Table" "settle"]
def faL : List He.Fa := [.glo "is_whole", .glo "is_sign", .glo "is_text_of_signs", .glo "is_filled", .glo "is_row", .glo "first_misfit", .glo "check_page", .glo "check_style", .glo "written", .glo "rows_of", .glo "check_mark", .glo "marks_there", .glo "those_there", .glo "text_of", .glo "first_there", .glo "_law_begun", .glo "_law_take", .glo "_law_alike", .glo "_law_sign", .glo "_law_cell", .glo "_law_row", .glo "_law_page", .glo "_law_style", .glo "_law_could", .glo "_law_done", .glo "law", .int "BLANK" 32, .int "TILDE" 126, .int "PERCENT" 37, .int "MOST_ROWS" 30, .int "MOST_CELLS" 6, .int "MOST_SIGNS" 10, .int "MOST_GAP" 4, .int "MOST_LEAST" 12, .free "isinstance", .free "len", .free "range", .free "max", .free "min", .free "all", .free "str", .free "int", .free "bool", .free "list", .free "tuple", .free "enumerate", .free "ord", .glo "Table", .glo "GrowError", .glo "BadCell", .glo "TooMuch", .cls "Table", .mkr "Table", .exc "BadCell", .exm "BadCell" "GrowError" true, .exc "TooMuch", .exm "TooMuch" "GrowError" true, .str "TAB" "\t", .str "LINE_END" "\n", .int "MOST_HANDS" 4, .noat "Table" "style", .noat "Table" "signs", .noat "Table" "order", .noat "Table" "there", .noat "Table" "deeds", .noat "Table" "spots", .noat "Table" "undone", .meth "Table" "press", .meth "Table" "rub", .meth "Table" "back", .meth "Table" "again", .meth "Table" "right", .meth "Table" "at", .meth "Table" "page", .meth "Table" "check_hand", .meth "Table" "present", .meth "Table" "near", .meth "Table" "go", .meth "Table" "turn", .meth "Table" "settle"]
def tfB : List He.Defn := [("is_text_of_signs", none), ("is_row", none)]
def lmL : List He.Defn := [("_law_done", none), ("law", none)]
def tfL : List He.Defn := tfB ++ lmL
def exL : PySem.W.Frag → Bool := fun K => (lmL.all fun r => (tfB.all fun q => decide ((He.cT K q).2 ≠ (He.cT K r).2)) && (lmL.all fun q => decide (q = r) || decide ((He.cT K q).2 ≠ (He.cT K r).2)))
def constB (K : PySem.W.Frag) : Bool := true
def exC (K : PySem.W.Frag) : Bool := exL K && constB K
theorem subL {K : PySem.W.Frag} {q : Addr × Addr} (h : q ∈ tfB.map (He.cT K)) : q ∈ tfL.map (He.cT K) := by
  unfold tfL
  rw [List.map_append]
  exact List.mem_append_left _ h
theorem memL {K : PySem.W.Frag} {r : He.Defn} (h : r ∈ lmL) : He.cT K r ∈ tfL.map (He.cT K) := by
  unfold tfL
  rw [List.map_append]
  exact List.mem_append_right _ (List.mem_map_of_mem h)
theorem ne_of_ex {K : PySem.W.Frag} (h : exL K = true) {r : He.Defn} (hr : r ∈ lmL) : ApartT (tfB.map (He.cT K)) (He.cT K r).2 := fun q hq => by
  obtain ⟨d, hd, rfl⟩ := List.mem_map.mp hq
  have z := (Bool.and_eq_true_iff.mp (List.all_eq_true.mp h r hr)).1
  have z := List.all_eq_true.mp z d hd
  simpa using z
theorem ne_of_ex2 {K : PySem.W.Frag} (h : exL K = true) {r q : He.Defn} (hr : r ∈ lmL) (hq : q ∈ lmL) (n : q ≠ r) : (He.cT K q).2 ≠ (He.cT K r).2 := by
  have z := (Bool.and_eq_true_iff.mp (List.all_eq_true.mp h r hr)).2
  have z := List.all_eq_true.mp z q hq
  simpa [n] using z
theorem fun_of {K : PySem.W.Frag} {x : Str} {st : Stmt} {f : Addr} {fd : FuncData} (F : FunD K x x (defArgs st) (defBody st) (defScope st) [] [] f fd) : Fun K x x st f fd := by
  obtain ⟨⟨oc, od, dV, kV, doc, pm, an, cdv, ct, osl, e, lk, hcd, hd, _⟩, kp⟩ := F
  rcases hd with ⟨_, hd⟩ | ⟨hd, _⟩
  · subst hd
    exact ⟨⟨oc, od, kV, doc, pm, an, cdv, ct, osl, e, lk, hcd⟩, kp⟩
  · exact absurd rfl hd
/-- a def of the top, by its name -/
structure At (K : PySem.W.Frag) (mg : Str → Option Value) (x : Str) (st : Stmt) (fd : FuncData) : Prop where
  mg_ : mg x = some (.ref (He.ga K x))
  fn : Fun K x x st (He.ga K x) fd
theorem At.kp {K : PySem.W.Frag} {mg : Str → Option Value} {x : Str} {st : Stmt} {fd : FuncData} (a : At K mg x st fd) : PySem.W.keepIn K (.ref (He.ga K x)) = true := a.fn.kp
theorem fun_ofm {K : PySem.W.Frag} {x q : Str} {st : Stmt} {f : Addr} {fd : FuncData} (F : FunD K x q (defArgs st) (defBody st) (defScope st) [] [] f fd) : Fun K x q st f fd := by
  obtain ⟨⟨oc, od, dV, kV, doc, pm, an, cdv, ct, osl, e, lk, hcd, hd, _⟩, kp⟩ := F
  rcases hd with ⟨_, hd⟩ | ⟨hd, _⟩
  · subst hd
    exact ⟨⟨oc, od, kV, doc, pm, an, cdv, ct, osl, e, lk, hcd⟩, kp⟩
  · exact absurd rfl hd
theorem atm_of {fa : List He.Fa} {fn : List He.DefD} {K : PySem.W.Frag} (c : He.SaysD fa fn K) {k i : Nat} {C m : Str} (hd : dm k i C m ∈ fn) : ∃ fd, Fun K m (C ++ "." ++ m) (mth k i) (He.ma K (He.ga K C) m) fd := by
  obtain ⟨fd, F⟩ := c.defs hd
  exact ⟨fd, fun_ofm F⟩
theorem at_of {fa : List He.Fa} {fn : List He.DefD} {K : PySem.W.Frag} {h : Heap} {mg : Str → Option Value} (X : K.In h) (G : h.Ns mainGlobals mg) (c : He.SaysD fa fn K) {i : Nat} {x : Str} (hd : dd i x ∈ fn) (hf : He.Fa.glo x ∈ fa) : ∃ fd, At K mg x (top i) fd := by
  obtain ⟨fd, F⟩ := c.defs hd
  exact ⟨fd, He.glo_ok X G (c.facts hf), fun_of F⟩
theorem code_of {K : PySem.W.Frag} {mg : Str → Option Value} {x : Str} {st : Stmt} {fd : FuncData} (a : At K mg x st fd) : fd.code = .ref (He.cT K (x, none)).1 := by
  obtain ⟨oc, od, kV, doc, pm, an, cdv, ct, osl, e, lk, hcd⟩ := a.fn.ex
  obtain ⟨c, hc⟩ := He.codeIn_ref hcd
  have e2 : fd.code = .ref c := by rw [e, ← hc]
  have e3 : He.codeOf K (x, none) = c := He.codeOf_eq (p := (x, none)) lk e2
  show fd.code = .ref (He.codeOf K (x, none))
  rw [e3, e2]
theorem tab_conv {base : Heap} {mg : Str → Option Value} {c P : Addr} (t : LamX.TabB base mg c P) : GxR.TabB base mg c P := ⟨t.code, t.bm, t.gP⟩

theorem txt_of {K : PySem.W.Frag} {h : Heap} {mg : Str → Option Value} (X : K.In h) (G : h.Ns mainGlobals mg) (c : He.SaysD faL fnL K) : Txt mg := by
  constructor
  all_goals exact He.free_ok X G (c.facts (by simp [faL]))
theorem consts_of {K : PySem.W.Frag} {h : Heap} {mg : Str → Option Value} (X : K.In h) (G : h.Ns mainGlobals mg) (c : He.SaysD faL fnL K) : Consts mg := by
  constructor
  all_goals exact He.int_ok X G (c.facts (by simp [faL]))
theorem triples_nil : TriplesOk (#[] : Array Value).toList := trivial
theorem facts {w : World} {K : PySem.W.Frag} {h : Heap} {mg : Str → Option Value} {f : Addr} (X : K.In h) (G : h.Ns mainGlobals mg) (hfa : mg ("law" : Str) = some (.ref f)) (c : He.SaysX faL fnL [] tfL exC w h K) :
    LamX.LawAtS PySem.Challenge.rw_tabgrow_k36_whole_hands_beside w K CX0 17 63 "_law_script" mg f h := by
  have cd := c.t.d
  have T := txt_of X G cd
  have N := consts_of X G cd
  obtain ⟨me, mf⟩ := He.ba c.more
  have ne0 := ne_of_ex me (r := ("_law_done", none)) (by simp [lmL])
  have ne := ne_of_ex me (r := ("law", none)) (by simp [lmL])
  have nn01 := ne_of_ex2 me (r := ("_law_done", none)) (q := ("law", none)) (by simp [lmL]) (by simp [lmL]) (by decide)
  have nn10 := ne_of_ex2 me (r := ("law", none)) (q := ("_law_done", none)) (by simp [lmL]) (by simp [lmL]) (by decide)
  obtain ⟨d20, a20⟩ := at_of X G cd (i := 20) (x := "is_whole") (by simp [fnL]) (by simp [faL])
  have b20 := a20.fn.binds (ps := ["value", "low", "high"]) fun _ _ _ _ _ _ us hl => match us, hl with | [_, _, _], _ => rfl
  obtain ⟨d21, a21⟩ := at_of X G cd (i := 21) (x := "is_sign") (by simp [fnL]) (by simp [faL])
  have b21 := a21.fn.binds (ps := ["sign"]) fun _ _ _ _ _ _ us hl => match us, hl with | [_], _ => rfl
  obtain ⟨d22, a22⟩ := at_of X G cd (i := 22) (x := "is_text_of_signs") (by simp [fnL]) (by simp [faL])
  have b22 := a22.fn.binds (ps := ["value", "most"]) fun _ _ _ _ _ _ us hl => match us, hl with | [_, _], _ => rfl
  obtain ⟨d23, a23⟩ := at_of X G cd (i := 23) (x := "is_filled") (by simp [fnL]) (by simp [faL])
  have b23 := a23.fn.binds (ps := ["value", "most"]) fun _ _ _ _ _ _ us hl => match us, hl with | [_, _], _ => rfl
  obtain ⟨d24, a24⟩ := at_of X G cd (i := 24) (x := "is_row") (by simp [fnL]) (by simp [faL])
  have b24 := a24.fn.binds (ps := ["value"]) fun _ _ _ _ _ _ us hl => match us, hl with | [_], _ => rfl
  obtain ⟨d25, a25⟩ := at_of X G cd (i := 25) (x := "first_misfit") (by simp [fnL]) (by simp [faL])
  have b25 := a25.fn.binds (ps := ["rows"]) fun _ _ _ _ _ _ us hl => match us, hl with | [_], _ => rfl
  obtain ⟨d26, a26⟩ := at_of X G cd (i := 26) (x := "check_page") (by simp [fnL]) (by simp [faL])
  have b26 := a26.fn.binds (ps := ["page"]) fun _ _ _ _ _ _ us hl => match us, hl with | [_], _ => rfl
  obtain ⟨d27, a27⟩ := at_of X G cd (i := 27) (x := "check_style") (by simp [fnL]) (by simp [faL])
  have b27 := a27.fn.binds (ps := ["style"]) fun _ _ _ _ _ _ us hl => match us, hl with | [_], _ => rfl
  obtain ⟨d29, a29⟩ := at_of X G cd (i := 29) (x := "written") (by simp [fnL]) (by simp [faL])
  have b29 := a29.fn.binds (ps := ["page"]) fun _ _ _ _ _ _ us hl => match us, hl with | [_], _ => rfl
  obtain ⟨d30, a30⟩ := at_of X G cd (i := 30) (x := "rows_of") (by simp [fnL]) (by simp [faL])
  have b30 := a30.fn.binds (ps := ["text"]) fun _ _ _ _ _ _ us hl => match us, hl with | [_], _ => rfl
  obtain ⟨d34, a34⟩ := at_of X G cd (i := 34) (x := "check_mark") (by simp [fnL]) (by simp [faL])
  have b34 := a34.fn.binds (ps := ["sign"]) fun _ _ _ _ _ _ us hl => match us, hl with | [_], _ => rfl
  obtain ⟨d35, a35⟩ := at_of X G cd (i := 35) (x := "marks_there") (by simp [fnL]) (by simp [faL])
  have b35 := a35.fn.binds (ps := ["many", "deeds"]) fun _ _ _ _ _ _ us hl => match us, hl with | [_, _], _ => rfl
  obtain ⟨d36, a36⟩ := at_of X G cd (i := 36) (x := "those_there") (by simp [fnL]) (by simp [faL])
  have b36 := a36.fn.binds (ps := ["order", "there"]) fun _ _ _ _ _ _ us hl => match us, hl with | [_, _], _ => rfl
  obtain ⟨d37, a37⟩ := at_of X G cd (i := 37) (x := "text_of") (by simp [fnL]) (by simp [faL])
  have b37 := a37.fn.binds (ps := ["signs", "marks"]) fun _ _ _ _ _ _ us hl => match us, hl with | [_, _], _ => rfl
  obtain ⟨d38, a38⟩ := at_of X G cd (i := 38) (x := "first_there") (by simp [fnL]) (by simp [faL])
  have b38 := a38.fn.binds (ps := ["order", "there", "spot"]) fun _ _ _ _ _ _ us hl => match us, hl with | [_, _, _], _ => rfl
  obtain ⟨d40, a40⟩ := at_of X G cd (i := 40) (x := "_law_begun") (by simp [fnL]) (by simp [faL])
  have b40 := a40.fn.binds (ps := ["_law_script"]) fun _ _ _ _ _ _ us hl => match us, hl with | [_], _ => rfl
  obtain ⟨d41, a41⟩ := at_of X G cd (i := 41) (x := "_law_take") (by simp [fnL]) (by simp [faL])
  have b41 := a41.fn.binds (ps := ["_law_box", "_law_many"]) fun _ _ _ _ _ _ us hl => match us, hl with | [_, _], _ => rfl
  obtain ⟨d42, a42⟩ := at_of X G cd (i := 42) (x := "_law_alike") (by simp [fnL]) (by simp [faL])
  have b42 := a42.fn.binds (ps := ["_law_found", "_law_due"]) fun _ _ _ _ _ _ us hl => match us, hl with | [_, _], _ => rfl
  obtain ⟨d43, a43⟩ := at_of X G cd (i := 43) (x := "_law_sign") (by simp [fnL]) (by simp [faL])
  have b43 := a43.fn.binds (ps := ["_law_box"]) fun _ _ _ _ _ _ us hl => match us, hl with | [_], _ => rfl
  obtain ⟨d44, a44⟩ := at_of X G cd (i := 44) (x := "_law_cell") (by simp [fnL]) (by simp [faL])
  have b44 := a44.fn.binds (ps := ["_law_box", "_law_sort"]) fun _ _ _ _ _ _ us hl => match us, hl with | [_, _], _ => rfl
  obtain ⟨d45, a45⟩ := at_of X G cd (i := 45) (x := "_law_row") (by simp [fnL]) (by simp [faL])
  have b45 := a45.fn.binds (ps := ["_law_box", "_law_sorts", "_law_many"]) fun _ _ _ _ _ _ us hl => match us, hl with | [_, _, _], _ => rfl
  obtain ⟨d46, a46⟩ := at_of X G cd (i := 46) (x := "_law_page") (by simp [fnL]) (by simp [faL])
  have b46 := a46.fn.binds (ps := ["_law_box", "_law_most"]) fun _ _ _ _ _ _ us hl => match us, hl with | [_, _], _ => rfl
  obtain ⟨d47, a47⟩ := at_of X G cd (i := 47) (x := "_law_style") (by simp [fnL]) (by simp [faL])
  have b47 := a47.fn.binds (ps := ["_law_box"]) fun _ _ _ _ _ _ us hl => match us, hl with | [_], _ => rfl
  obtain ⟨d48, a48⟩ := at_of X G cd (i := 48) (x := "_law_could") (by simp [fnL]) (by simp [faL])
  have b48 := a48.fn.binds (ps := ["_law_work"]) fun _ _ _ _ _ _ us hl => match us, hl with | [_], _ => rfl
  obtain ⟨d49, a49⟩ := at_of X G cd (i := 49) (x := "_law_done") (by simp [fnL]) (by simp [faL])
  have b49 := a49.fn.binds (ps := ["_law_table", "_law_hand", "_law_what"]) fun _ _ _ _ _ _ us hl => match us, hl with | [_, _, _], _ => rfl
  obtain ⟨d50, a50⟩ := at_of X G cd (i := 50) (x := "law") (by simp [fnL]) (by simp [faL])
  have b50 := a50.fn.binds (ps := ["_law_script"]) fun _ _ _ _ _ _ us hl => match us, hl with | [_], _ => rfl
  have hf : ∀ {x : He.Fa}, x ∈ faL → He.Fa.ok K x = true := fun h => cd.facts h
  have Xc : TabC K (He.ga K "Table") := ⟨He.cls_ok (hf (x := .cls "Table") (by simp [faL])), He.noat_ok (hf (x := .noat "Table" "style") (by simp [faL])), He.noat_ok (hf (x := .noat "Table" "signs") (by simp [faL])), He.noat_ok (hf (x := .noat "Table" "order") (by simp [faL])), He.noat_ok (hf (x := .noat "Table" "there") (by simp [faL])), He.noat_ok (hf (x := .noat "Table" "deeds") (by simp [faL])), He.noat_ok (hf (x := .noat "Table" "spots") (by simp [faL])), He.noat_ok (hf (x := .noat "Table" "undone") (by simp [faL]))⟩
  have eC := He.exc_ok (hf (x := .exc "BadCell") (by simp [faL]))
  have eD := He.exc_ok (hf (x := .exc "TooMuch") (by simp [faL]))
  have ErB : ErrC K mg "BadCell" (He.ga K "BadCell") (He.ga K "GrowError") := ⟨He.glo_ok X G (hf (x := .glo "BadCell") (by simp [faL])), eC.1, eC.2.1, eC.2.2.1, eC.2.2.2, He.exm_ok (hf (x := .exm "BadCell" "GrowError" true) (by simp [faL]))⟩
  have Er : ErrC K mg "TooMuch" (He.ga K "TooMuch") (He.ga K "GrowError") := ⟨He.glo_ok X G (hf (x := .glo "TooMuch") (by simp [faL])), eD.1, eD.2.1, eD.2.2.1, eD.2.2.2, He.exm_ok (hf (x := .exm "TooMuch" "GrowError" true) (by simp [faL]))⟩
  have eU := He.exm_ok (hf (x := .exm "TooMuch" "GrowError" true) (by simp [faL]))
  have eG := He.glo_ok X G (hf (x := .glo "GrowError") (by simp [faL]))
  have eT : ∃ t, mg "TAB" = some (.str tabS t) := He.str_ok X G (hf (x := .str "TAB" "\t") (by simp [faL]))
  have eL : ∃ t, mg "LINE_END" = some (.str lineS t) := He.str_ok X G (hf (x := .str "LINE_END" "\n") (by simp [faL]))
  have eM : ∃ t, mg "MOST_HANDS" = some (.int 4 t) := He.int_ok X G (hf (x := .int "MOST_HANDS" 4) (by simp [faL]))
  have gT : mg "Table" = some (.ref (He.ga K "Table")) := He.glo_ok X G (hf (x := .glo "Table") (by simp [faL]))
  obtain ⟨d_Table_init, a_Table_init⟩ := atm_of cd (k := 33) (i := 0) (C := "Table") (m := "__init__") (by simp [fnL])
  have b_Table_init := a_Table_init.binds (ps := ["self", "page", "style", "hands"]) fun _ _ _ _ _ _ us hl => match us, hl with | [_, _, _, _], _ => rfl
  have mk_Table : Mk K (He.ga K "Table") (He.ma K (He.ga K "Table") "__init__") := He.mkr_ok (hf (x := .mkr "Table") (by simp [faL]))
  obtain ⟨d_Table_press, a_Table_press⟩ := atm_of cd (k := 33) (i := 1) (C := "Table") (m := "press") (by simp [fnL])
  have b_Table_press := a_Table_press.binds (ps := ["self", "hand", "sign"]) fun _ _ _ _ _ _ us hl => match us, hl with | [_, _, _], _ => rfl
  have m_Table_press : Meth K (He.ga K "Table") "press" (He.ma K (He.ga K "Table") "press") := He.meth_ok (hf (x := .meth "Table" "press") (by simp [faL]))
  obtain ⟨d_Table_rub, a_Table_rub⟩ := atm_of cd (k := 33) (i := 2) (C := "Table") (m := "rub") (by simp [fnL])
  have b_Table_rub := a_Table_rub.binds (ps := ["self", "hand"]) fun _ _ _ _ _ _ us hl => match us, hl with | [_, _], _ => rfl
  have m_Table_rub : Meth K (He.ga K "Table") "rub" (He.ma K (He.ga K "Table") "rub") := He.meth_ok (hf (x := .meth "Table" "rub") (by simp [faL]))
  obtain ⟨d_Table_back, a_Table_back⟩ := atm_of cd (k := 33) (i := 3) (C := "Table") (m := "back") (by simp [fnL])
  have b_Table_back := a_Table_back.binds (ps := ["self", "hand"]) fun _ _ _ _ _ _ us hl => match us, hl with | [_, _], _ => rfl
  have m_Table_back : Meth K (He.ga K "Table") "back" (He.ma K (He.ga K "Table") "back") := He.meth_ok (hf (x := .meth "Table" "back") (by simp [faL]))
  obtain ⟨d_Table_again, a_Table_again⟩ := atm_of cd (k := 33) (i := 4) (C := "Table") (m := "again") (by simp [fnL])
  have b_Table_again := a_Table_again.binds (ps := ["self", "hand"]) fun _ _ _ _ _ _ us hl => match us, hl with | [_, _], _ => rfl
  have m_Table_again : Meth K (He.ga K "Table") "again" (He.ma K (He.ga K "Table") "again") := He.meth_ok (hf (x := .meth "Table" "again") (by simp [faL]))
  obtain ⟨d_Table_right, a_Table_right⟩ := atm_of cd (k := 33) (i := 6) (C := "Table") (m := "right") (by simp [fnL])
  have b_Table_right := a_Table_right.binds (ps := ["self", "hand"]) fun _ _ _ _ _ _ us hl => match us, hl with | [_, _], _ => rfl
  have m_Table_right : Meth K (He.ga K "Table") "right" (He.ma K (He.ga K "Table") "right") := He.meth_ok (hf (x := .meth "Table" "right") (by simp [faL]))
  obtain ⟨d_Table_at, a_Table_at⟩ := atm_of cd (k := 33) (i := 7) (C := "Table") (m := "at") (by simp [fnL])
  have b_Table_at := a_Table_at.binds (ps := ["self", "hand"]) fun _ _ _ _ _ _ us hl => match us, hl with | [_, _], _ => rfl
  have m_Table_at : Meth K (He.ga K "Table") "at" (He.ma K (He.ga K "Table") "at") := He.meth_ok (hf (x := .meth "Table" "at") (by simp [faL]))
  obtain ⟨d_Table_page, a_Table_page⟩ := atm_of cd (k := 33) (i := 8) (C := "Table") (m := "page") (by simp [fnL])
  have b_Table_page := a_Table_page.binds (ps := ["self"]) fun _ _ _ _ _ _ us hl => match us, hl with | [_], _ => rfl
  have m_Table_page : Meth K (He.ga K "Table") "page" (He.ma K (He.ga K "Table") "page") := He.meth_ok (hf (x := .meth "Table" "page") (by simp [faL]))
  obtain ⟨d_Table_check_hand, a_Table_check_hand⟩ := atm_of cd (k := 33) (i := 11) (C := "Table") (m := "check_hand") (by simp [fnL])
  have b_Table_check_hand := a_Table_check_hand.binds (ps := ["self", "hand"]) fun _ _ _ _ _ _ us hl => match us, hl with | [_, _], _ => rfl
  have m_Table_check_hand : Meth K (He.ga K "Table") "check_hand" (He.ma K (He.ga K "Table") "check_hand") := He.meth_ok (hf (x := .meth "Table" "check_hand") (by simp [faL]))
  obtain ⟨d_Table_present, a_Table_present⟩ := atm_of cd (k := 33) (i := 12) (C := "Table") (m := "present") (by simp [fnL])
  have b_Table_present := a_Table_present.binds (ps := ["self"]) fun _ _ _ _ _ _ us hl => match us, hl with | [_], _ => rfl
  have m_Table_present : Meth K (He.ga K "Table") "present" (He.ma K (He.ga K "Table") "present") := He.meth_ok (hf (x := .meth "Table" "present") (by simp [faL]))
  obtain ⟨d_Table_near, a_Table_near⟩ := atm_of cd (k := 33) (i := 13) (C := "Table") (m := "near") (by simp [fnL])
  have b_Table_near := a_Table_near.binds (ps := ["self", "hand", "by"]) fun _ _ _ _ _ _ us hl => match us, hl with | [_, _, _], _ => rfl
  have m_Table_near : Meth K (He.ga K "Table") "near" (He.ma K (He.ga K "Table") "near") := He.meth_ok (hf (x := .meth "Table" "near") (by simp [faL]))
  obtain ⟨d_Table_go, a_Table_go⟩ := atm_of cd (k := 33) (i := 14) (C := "Table") (m := "go") (by simp [fnL])
  have b_Table_go := a_Table_go.binds (ps := ["self", "hand", "by"]) fun _ _ _ _ _ _ us hl => match us, hl with | [_, _, _], _ => rfl
  have m_Table_go : Meth K (He.ga K "Table") "go" (He.ma K (He.ga K "Table") "go") := He.meth_ok (hf (x := .meth "Table" "go") (by simp [faL]))
  obtain ⟨d_Table_turn, a_Table_turn⟩ := atm_of cd (k := 33) (i := 15) (C := "Table") (m := "turn") (by simp [fnL])
  have b_Table_turn := a_Table_turn.binds (ps := ["self", "number", "stands"]) fun _ _ _ _ _ _ us hl => match us, hl with | [_, _, _], _ => rfl
  have m_Table_turn : Meth K (He.ga K "Table") "turn" (He.ma K (He.ga K "Table") "turn") := He.meth_ok (hf (x := .meth "Table" "turn") (by simp [faL]))
  obtain ⟨d_Table_settle, a_Table_settle⟩ := atm_of cd (k := 33) (i := 16) (C := "Table") (m := "settle") (by simp [fnL])
  have b_Table_settle := a_Table_settle.binds (ps := ["self", "signs", "order", "deeds"]) fun _ _ _ _ _ _ us hl => match us, hl with | [_, _, _, _], _ => rfl
  have m_Table_settle : Meth K (He.ga K "Table") "settle" (He.ma K (He.ga K "Table") "settle") := He.meth_ok (hf (x := .meth "Table" "settle") (by simp [faL]))
  have e := hfa.symm.trans a50.mg_
  cases e
  refine ⟨d50, tfL.map (He.cT K), spLaw K (tfB.map (He.cT K)) (He.cT K ("_law_done", none)).2 (He.cT K ("law", none)).2, fun p hp => ?_, fun p hp => ?_, fun p hp => ?_, fun s u => ?_, fun H a ns hl _ hT hS => ⟨a, ns, rfl, fun p hp => ⟨_, hT p (subL hp), triples_nil⟩, LamX.TabS.nil (hT _ (memL (r := ("_law_done", none)) (by simp [lmL]))), LamX.TabS.nil (hT _ (memL (r := ("law", none)) (by simp [lmL]))), hS, hl, fun _ => rfl⟩, fun base KB _ TB => ?_⟩
  · obtain ⟨p', hp', rfl⟩ := List.mem_map.mp hp
    exact c.empty p' hp'
  · obtain ⟨p', hp', rfl⟩ := List.mem_map.mp hp
    exact c.out p' hp'
  · obtain ⟨p', hp', rfl⟩ := List.mem_map.mp hp
    exact PySem.W.codeHd_of_K X (c.hd p' hp')
  · obtain ⟨oc, od, kV, doc, pm, an, cdv, ct, osl, e, _, _⟩ := a50.fn.ex
    rw [e]
    exact .of_eq rfl
  have m22 : He.cT K ("is_text_of_signs", none) ∈ tfB.map (He.cT K) := List.mem_map.mpr ⟨_, by simp [tfB], rfl⟩
  have t22 := tab_conv (TB _ (subL m22))
  have m24 : He.cT K ("is_row", none) ∈ tfB.map (He.cT K) := List.mem_map.mpr ⟨_, by simp [tfB], rfl⟩
  have t24 := tab_conv (TB _ (subL m24))
  have g40 := ok_begun (P := PySem.Challenge.rw_tabgrow_k36_whole_hands_beside.prog) (w := w) (base := base) (mg := mg) T a40.fn 
  have g41 := ok_take (P := PySem.Challenge.rw_tabgrow_k36_whole_hands_beside.prog) (w := w) (base := base) (mg := mg)  a41.fn 
  have g43 := ok_sign (P := PySem.Challenge.rw_tabgrow_k36_whole_hands_beside.prog) (w := w) (base := base) (mg := mg)  a43.fn g41 a41.kp b41 a41.mg_
  have g47 := ok_lstyle (P := PySem.Challenge.rw_tabgrow_k36_whole_hands_beside.prog) (w := w) (base := base) (mg := mg)  a47.fn g41 a41.kp b41 a41.mg_
  have g48 := ok_could (P := PySem.Challenge.rw_tabgrow_k36_whole_hands_beside.prog) (w := w) (base := base) (mg := mg) (kl := 14) eG a48.fn 
  have g20 := ok_whole (P := PySem.Challenge.rw_tabgrow_k36_whole_hands_beside.prog) (w := w) (base := base) (mg := mg) T a20.fn 
  have g27 := ok_cstyle (P := PySem.Challenge.rw_tabgrow_k36_whole_hands_beside.prog) (w := w) (base := base) (mg := mg) T N a27.fn g20 a20.kp b20 a20.mg_
  have g21 := ok_sg (P := PySem.Challenge.rw_tabgrow_k36_whole_hands_beside.prog) (w := w) (base := base) (mg := mg) T N a21.fn 
  have g22 := ok_text (P := PySem.Challenge.rw_tabgrow_k36_whole_hands_beside.prog) (w := w) (base := base) (mg := mg) (cs := tfB.map (He.cT K)) T a22.fn (code_of a22) t22 m22 g21 a21.kp b21 a21.mg_
  have g24 := ok_isrow (P := PySem.Challenge.rw_tabgrow_k36_whole_hands_beside.prog) (w := w) (base := base) (mg := mg) T N a24.fn (code_of a24) t24 m24 g22 a22.kp b22 a22.mg_
  have g25 := ok_misfit (P := PySem.Challenge.rw_tabgrow_k36_whole_hands_beside.prog) (w := w) (base := base) (mg := mg) T N a25.fn g24 a24.kp b24 a24.mg_
  have g26 := ok_check (P := PySem.Challenge.rw_tabgrow_k36_whole_hands_beside.prog) (w := w) (base := base) (mg := mg) T a26.fn g25 a25.kp b25 a25.mg_
  have g29 := ok_writ (P := PySem.Challenge.rw_tabgrow_k36_whole_hands_beside.prog) (w := w) (base := base) (mg := mg) eT eL a29.fn g26 a26.kp b26 a26.mg_
  have g30 := ok_rowsof (P := PySem.Challenge.rw_tabgrow_k36_whole_hands_beside.prog) (w := w) (base := base) (mg := mg) (cs := tfB.map (He.cT K)) T eT eL a30.fn 
  have g20_B := ok_wholeB (P := PySem.Challenge.rw_tabgrow_k36_whole_hands_beside.prog) (w := w) (base := base) (mg := mg) T a20.fn 
  have g22_3 := ok_text3 (P := PySem.Challenge.rw_tabgrow_k36_whole_hands_beside.prog) (w := w) (base := base) (mg := mg) (cs := tfB.map (He.cT K)) T a22.fn (code_of a22) t22 m22 g21 a21.kp b21 a21.mg_
  have g24_3 := ok_row3 (P := PySem.Challenge.rw_tabgrow_k36_whole_hands_beside.prog) (w := w) (base := base) (mg := mg) T N a24.fn (code_of a24) t24 m24 g22_3 a22.kp b22 a22.mg_
  have g25_B := ok_misB (P := PySem.Challenge.rw_tabgrow_k36_whole_hands_beside.prog) (w := w) (base := base) (mg := mg) T N a25.fn g24_3 a24.kp b24 a24.mg_
  have g35 := ok_marks (P := PySem.Challenge.rw_tabgrow_k36_whole_hands_beside.prog) (w := w) (base := base) (mg := mg)  a35.fn 
  have g36 := ok_those (P := PySem.Challenge.rw_tabgrow_k36_whole_hands_beside.prog) (w := w) (base := base) (mg := mg)  a36.fn 
  have g37 := ok_textof (P := PySem.Challenge.rw_tabgrow_k36_whole_hands_beside.prog) (w := w) (base := base) (mg := mg)  a37.fn 
  have g38 := ok_first (P := PySem.Challenge.rw_tabgrow_k36_whole_hands_beside.prog) (w := w) (base := base) (mg := mg)  a38.fn 
  have g23 := ok_filled (P := PySem.Challenge.rw_tabgrow_k36_whole_hands_beside.prog) (w := w) (base := base) (mg := mg)  a23.fn g22 a22.kp b22 a22.mg_
  have g34 := ok_cmark (P := PySem.Challenge.rw_tabgrow_k36_whole_hands_beside.prog) (w := w) (base := base) (mg := mg) eT eL a34.fn g23 a23.kp b23 a23.mg_
  have t_check_hand := ok_chand (P := PySem.Challenge.rw_tabgrow_k36_whole_hands_beside.prog) (w := w) (base := base) (mg := mg) T Xc a_Table_check_hand g20_B a20.kp b20 a20.mg_
  have t_present := ok_present (P := PySem.Challenge.rw_tabgrow_k36_whole_hands_beside.prog) (w := w) (base := base) (mg := mg) Xc a_Table_present g36 a36.kp b36 a36.mg_
  have t_near := ok_near (P := PySem.Challenge.rw_tabgrow_k36_whole_hands_beside.prog) (w := w) (base := base) (mg := mg) T Xc a_Table_near m_Table_present t_present b_Table_present
  have t_go := ok_go (P := PySem.Challenge.rw_tabgrow_k36_whole_hands_beside.prog) (w := w) (base := base) (mg := mg) (cs := tfB.map (He.cT K)) Xc a_Table_go m_Table_near t_near b_Table_near
  have t_right := ok_tright (P := PySem.Challenge.rw_tabgrow_k36_whole_hands_beside.prog) (w := w) (base := base) (mg := mg) (cs := tfB.map (He.cT K)) Xc a_Table_right m_Table_check_hand t_check_hand b_Table_check_hand m_Table_go t_go b_Table_go
  have t_page := ok_tpage (P := PySem.Challenge.rw_tabgrow_k36_whole_hands_beside.prog) (w := w) (base := base) (mg := mg) (cs := tfB.map (He.cT K)) Xc a_Table_page m_Table_present t_present b_Table_present g37 a37.kp b37 a37.mg_ g30 a30.kp b30 a30.mg_
  have t_at := ok_tat (P := PySem.Challenge.rw_tabgrow_k36_whole_hands_beside.prog) (w := w) (base := base) (mg := mg) (cs := tfB.map (He.cT K)) T Xc a_Table_at m_Table_check_hand t_check_hand b_Table_check_hand m_Table_present t_present b_Table_present g37 a37.kp b37 a37.mg_ g30 a30.kp b30 a30.mg_
  have t_settle := ok_settle (P := PySem.Challenge.rw_tabgrow_k36_whole_hands_beside.prog) (w := w) (base := base) (mg := mg) (cs := tfB.map (He.cT K)) T Er Xc a_Table_settle g35 a35.kp b35 a35.mg_ g36 a36.kp b36 a36.mg_ g37 a37.kp b37 a37.mg_ g30 a30.kp b30 a30.mg_ (fn_or g25 g25_B) a25.kp b25 a25.mg_ g38 a38.kp b38 a38.mg_
  have t_turn := ok_turn (P := PySem.Challenge.rw_tabgrow_k36_whole_hands_beside.prog) (w := w) (base := base) (mg := mg) (cs := tfB.map (He.cT K)) T Xc a_Table_turn m_Table_settle t_settle b_Table_settle
  have t_back := ok_tback (P := PySem.Challenge.rw_tabgrow_k36_whole_hands_beside.prog) (w := w) (base := base) (mg := mg) (cs := tfB.map (He.cT K)) T Xc a_Table_back m_Table_check_hand t_check_hand b_Table_check_hand m_Table_turn t_turn b_Table_turn
  have t_again := ok_tagain (P := PySem.Challenge.rw_tabgrow_k36_whole_hands_beside.prog) (w := w) (base := base) (mg := mg) (cs := tfB.map (He.cT K)) T Xc a_Table_again m_Table_check_hand t_check_hand b_Table_check_hand m_Table_turn t_turn b_Table_turn
  have t_rub := ok_trub (P := PySem.Challenge.rw_tabgrow_k36_whole_hands_beside.prog) (w := w) (base := base) (mg := mg) (cs := tfB.map (He.cT K)) T ErB Xc a_Table_rub m_Table_check_hand t_check_hand b_Table_check_hand m_Table_near t_near b_Table_near m_Table_settle t_settle b_Table_settle
  have t_press := ok_pressT (P := PySem.Challenge.rw_tabgrow_k36_whole_hands_beside.prog) (w := w) (base := base) (mg := mg) (cs := tfB.map (He.cT K)) T Xc a_Table_press m_Table_check_hand t_check_hand b_Table_check_hand g34 a34.kp b34 a34.mg_ m_Table_settle t_settle b_Table_settle
  have t_init := ok_tinit (P := PySem.Challenge.rw_tabgrow_k36_whole_hands_beside.prog) (w := w) (base := base) (mg := mg) (cs := tfB.map (He.cT K)) T Xc eM a_Table_init g29 a29.kp b29 a29.mg_ g27 a27.kp b27 a27.mg_ g20_B a20.kp b20 a20.mg_
  have g49 := ok_done (P := PySem.Challenge.rw_tabgrow_k36_whole_hands_beside.prog) (w := w) (base := base) (mg := mg) (cs := tfB.map (He.cT K)) T Xc ne0 a49.fn (code_of a49) (TB _ (memL (r := ("_law_done", none)) (by simp [lmL]))) eU g48 a48.kp b48 a48.mg_ m_Table_press t_press b_Table_press m_Table_rub t_rub b_Table_rub m_Table_back t_back b_Table_back m_Table_again t_again b_Table_again
  exact ok_law T Xc ne0 ne nn10 a50.fn (code_of a50) (TB _ (memL (r := ("law", none)) (by simp [lmL]))) eU g40 a40.kp b40 a40.mg_ g41 a41.kp b41 a41.mg_ g43 a43.kp b43 a43.mg_ g47 a47.kp b47 a47.mg_ g49 a49.kp b49 a49.mg_ g48 a48.kp b48 a48.mg_ mk_Table t_init b_Table_init gT m_Table_right t_right b_Table_right m_Table_page t_page b_Table_page m_Table_at t_at b_Table_at m_Table_back t_back (fn0_of t_back) b_Table_back
end TG


namespace TG
open PySem PySem.Spec PyProof.Rows L2
abbrev R : PySem.W.OpenRow := PySem.W.OpenLaw.row PySem.Challenge.rw_tabgrow_k36_whole_hands_beside
abbrev hk : PySem.W.Hook := He.hookX 4 faL fnL [] tfL exC
def ob (s : PySem.W.SharedT) : He.AlX := He.obsX 4 faL fnL [] tfL exC (HandSHeadRun.getT s)
theorem ob_eq (s : PySem.W.SharedT) : ob s = hk.obs s.abs := He.obsX_eq (HandSHeadRun.getT_eq s)
def loose0 : List Str := [PySem.Str.ofString "_wall", PySem.Str.ofString "GrowError", PySem.Str.ofString "BadPage", PySem.Str.ofString "BadStyle", PySem.Str.ofString "BadCell", PySem.Str.ofString "BadCount", PySem.Str.ofString "BadHand", PySem.Str.ofString "TooMuch", PySem.Str.ofString "MOST_ROWS", PySem.Str.ofString "MOST_CELLS", PySem.Str.ofString "MOST_SIGNS", PySem.Str.ofString "MOST_GAP", PySem.Str.ofString "MOST_LEAST", PySem.Str.ofString "BLANK", PySem.Str.ofString "TILDE", PySem.Str.ofString "PERCENT", PySem.Str.ofString "TAB", PySem.Str.ofString "LINE_END", PySem.Str.ofString "is_whole", PySem.Str.ofString "is_sign"]
def loose1 : List Str := [PySem.Str.ofString "is_text_of_signs", PySem.Str.ofString "is_filled", PySem.Str.ofString "is_row", PySem.Str.ofString "first_misfit", PySem.Str.ofString "check_page", PySem.Str.ofString "check_style", PySem.Str.ofString "written", PySem.Str.ofString "rows_of", PySem.Str.ofString "MOST_HANDS", PySem.Str.ofString "Table", PySem.Str.ofString "check_mark", PySem.Str.ofString "marks_there", PySem.Str.ofString "those_there", PySem.Str.ofString "text_of", PySem.Str.ofString "first_there", PySem.Str.ofString "_law_begun", PySem.Str.ofString "_law_take", PySem.Str.ofString "_law_alike", PySem.Str.ofString "_law_sign", PySem.Str.ofString "_law_cell"]
def loose2 : List Str := [PySem.Str.ofString "_law_row", PySem.Str.ofString "_law_page", PySem.Str.ofString "_law_style", PySem.Str.ofString "_law_could", PySem.Str.ofString "_law_done"]
def looseL : List Str := loose0 ++ loose1 ++ loose2
theorem run (w : World) : HandSHeadRun.RunEq R (PySem.W.view R.prog [50]) hk ob 4000 looseL w := by
  intro os
  kernel_rfl
end TG


open PySem PySem.W PySem.Calls PyProof.Rows
theorem PySem.Challenge.cw_tabgrow_k36_whole_hands_beside_holds : PySem.Challenge.rw_tabgrow_k36_whole_hands_beside.Holds := by
  w_on; o_law
  refine HandSHeadRun.head_any (r := OpenLaw.row PySem.Challenge.rw_tabgrow_k36_whole_hands_beside) (q := view (OpenLaw.row PySem.Challenge.rw_tabgrow_k36_whole_hands_beside).prog [50]) (H := TG.hk) (ob := TG.ob) (M := 4000) (loose := TG.looseL) (d := HandSHeadRun.topDef (OpenLaw.row PySem.Challenge.rw_tabgrow_k36_whole_hands_beside).prog 50) (kwd := []) TG.ob_eq
    (by kernel_rfl) (fun s => by kernel_rfl) TG.run (by kernel_rfl) (by kernel_rfl) (by kernel_rfl) (by rfl) (by first | assumption | decide +kernel) (by decide +kernel) ⟨rfl, rfl, rfl, rfl, rfl, by decide +kernel⟩ ?hw ?hc
  case hw => w_witness2
  case hc =>
    refine LamX.walk_ofTsE (l := PySem.Challenge.rw_tabgrow_k36_whole_hands_beside) (n := 63) (k := 17) (x := "_law_script") (CX := fun _ => L2.CX0) rfl (by decide) (by kernel_rfl) ⟨rfl, by decide, by decide⟩ ?F (fun _ _ _ _ _ z => z)
    intro w mg fa h Y G hmg0
    obtain ⟨K, KX, c⟩ := Y
    have hmg : mg ("law" : PySem.Str) = some (.ref fa) := by
      have e : (HandSHeadRun.topDef (OpenLaw.row PySem.Challenge.rw_tabgrow_k36_whole_hands_beside).prog 50).name = ("law" : PySem.Str) := by kernel_rfl
      rw [← e]
      exact hmg0
    exact ⟨K, KX, TG.facts KX G hmg c⟩

