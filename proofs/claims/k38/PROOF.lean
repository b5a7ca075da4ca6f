import PyProof.Rows.All
import Wide.All
import OpenK.AllK
import Wide.FinOn
import HandS.ForMost
import HandS.Exc
import HandS.GenList
import HandS.AnyAll
import HandS.IsInst
import HandS.StrMore
import HandS.Flow
import HandS.TupAny
import HandS.EndTab
import HandS.Walk
import HandS.Lambda
import HandS.Codes
import KE.KIntText
import KE.KxText
import KE.KStateDown
import HandS.Head0
import HandS.Head1
import HandS.Head2
import HandS.HeadEnd
import HandS.HeadHook1
import HandS.HeadHook2
import HandS.HeadHook3
import HandS.HeadHook4
import HandS.HeadWalk
import PyProof.WalkInts
import PyProof.ZipIter
import HandS.Zip
import HandS.Nested
import HandS.GenOver
import KE.KLam
import PySem.Challenge.RW_tabgrow_k38_whole_refused_and_let_later
import HandS.WordsExc
import HandS.ExcInit
import HandS.ExcOwn
import HandS.FStr
import HandS.ExcIs
import HandS.ExcField
import KE.KExcIs
import KE.KExcSuper
import KE.KSuper
import KE.KSuperObj
import HandS.Style
import HandS.Conv
import HandS.TryOnly
import HandS.Iter
import HandS.More
import HandS.TryMany
import HandS.TupMul
import HandS.Dict
set_option Elab.async false
set_option linter.all false
set_option maxRecDepth 1000000
set_option maxHeartbeats 20000000
namespace Gx
open PySem PySem.Spec PyProof.Rows L2 GenW
abbrev gE (X : Cx) (sc : Scope) (C : Addr) (code : Value) : Env :=
  genEnv sc (cloFrom X.env.cells sc.names []) C code builtinsNs X.env
/-- the context of the element -/
def gCx (X : Cx) (A : Around) (sc : Scope) (x : Str) (code : Value) (s4 : Shared) (H4 : Hp) (fp : List Addr) : Cx where
  prog := X.prog
  w := X.w
  K := X.K
  mg := X.mg
  base := X.base
  A := A.deeper (gE X sc s4.heap.objs.size code)
  N := [x]
  s_0 := s4
  H_0 := H4
  env := gE X sc s4.heap.objs.size code
  outer := X.stack
  stack := gE X sc s4.heap.objs.size code :: X.stack
  ex := fp
  fn := fun _ => false
  calm := true
  pn := []
  xe := fun _ _ => False
/-- the scope of a generator expression that captures nothing -/
structure GSc (sc : Scope) (x : Str) : Prop where
  kind : sc.kind = .function
  co : sc.isCoroutine = false
  cell : ∀ y ∈ sc.names, y.2 ≠ .cell
  free : ∀ y ∈ sc.names, y.2 ≠ .free
  dot : sc.names.lookup (".0" : Str) = some NameKind.local
  loc : sc.names.lookup x = some .local
section
variable {X : Cx} {pins : List (Addr × Obj)} {σ : L2.St} {H : Hp} {s : Shared} {A : Around} {sc : Scope} {x : Str} {code : Value} {fp : List Addr}
theorem no_cells (S : GSc sc x) (cells : List (Str × Addr)) {y : Str} {c : Addr} (h : (cloFrom cells sc.names []).lookup y = some c) : False := by
  rcases cloFrom_mem (PySem.mem_of_lookup h) with z | ⟨z, _⟩
  · cases z
  · exact S.free _ z rfl
theorem gx_inv (I : Inv X pins σ H s) (S : GSc sc x) (hd : A.handled = none) (hfr : A.frames = some X.stack) (hf : ∀ b ∈ fp, FpOk X pins H b)
    (hlt : ∀ b ∈ fp, b < s.heap.objs.size) {s5 : Shared} {m : Str → Option Value} (os : s5.os = s.os) (bare : AllBare s5.gens)
    (keep : ∀ b o, s.heap.get? b = some o → s5.heap.get? b = some o) (hns : s5.heap.Ns s.heap.objs.size m) :
    Inv (gCx X A sc x code s H fp) [] [none] H s5 := by
  have nc : ∀ {y : Str} {c : Addr}, (gCx X A sc x code s H fp).env.cells.lookup y = some c → False := fun {y c} h => no_cells S _ h
  refine ⟨⟨I.ok.mod, S.kind, I.ok.glob, rfl, Nat.le_refl _, fun y z c e _ => (nc e).elim, fun y hy => ?_, fun y c _ e => (nc e).elim, fun _ => hd,
      Around.frames_deeper hfr, .inr ⟨rfl, rfl⟩, fun b hb => ⟨Nat.ne_of_lt (hlt b hb), fun y c e => (nc e).elim⟩, I.bs, Nat.le_trans I.ok.bsz I.sz,
      fun b o e hb => ?_, fun b hb z => ?_, I.stack, I.stkFree⟩,
    os, bare, Un.kept keep, ⟨m, hns, fun i y v _ e2 _ => ?_⟩, fun y c e => (nc e).elim, I.hok.fresh (Nat.le_refl _), fun y c e => (nc e).elim,
    fun p hp => ?_, I.hok.kept keep, rfl⟩
  · rcases hy with z | z
    · exact absurd rfl (S.cell _ (PySem.mem_of_lookup (show sc.names.lookup y = some .cell from z)))
    · exact absurd rfl (S.free _ (PySem.mem_of_lookup (show sc.names.lookup y = some .free from z)))
  · rcases (hf b hb).2.2.2.1 with z | z
    · exact I.ok.noex b o e z
    · exact absurd (Nat.lt_of_lt_of_le (Heap.lt_size e) (Nat.le_trans I.ok.bsz z)) (Nat.lt_irrefl _)
  · rcases List.mem_cons.mp (I.stkSub b z) with q | q
    · exact (hf b hb).2.1 q
    · exact (hf b hb).2.2.1 q
  · match i, e2 with
    | 0, e2 => cases e2
    | i + 1, e2 => simp at e2
  · exact absurd (show p ∈ ([] : List (Addr × Obj)) from hp) (by simp)
/-- only the generators' states differ -/
theorem regens {s' : Shared} (I : Inv X pins σ H s) (os : s'.os = s.os) (hh : ∀ b o, s.heap.get? b = some o → s'.heap.get? b = some o) (hb : AllBare s'.gens) : Inv X pins σ H s' :=
  I.call' (ch := []) os (Un.kept hh) (I.hok.kept hh) hb fun b z => by simp at z
/-- the consumer's own list, if it has one -/
def Held (So : Option Addr) (Rel : Array Value → Prop) (ps : List (Addr × Obj)) : Prop :=
  match So with
  | none => ps = []
  | some S => ∃ acc c, ps = [(S, lstObj acc c)] ∧ Rel acc
structure Woke (So : Option Addr) (Rel : Array Value → Prop) (s s' : Shared) : Prop where
  os : s'.os = s.os
  bare : AllBare s'.gens
  keep : ∀ b o, So ≠ some b → s.heap.get? b = some o → s'.heap.get? b = some o
  own : ∀ S, So = some S → ∃ acc' c', s'.heap.get? S = some (lstObj acc' c') ∧ Rel acc'
theorem woken {Z : Cx} {q ps : List (Addr × Obj)} {So : Option Addr} {Rel Rel' : Array Value → Prop} {s' : Shared} (I : Inv Z (q ++ ps) σ H s) (hps : Held So Rel ps) (hq : ∀ p ∈ Z.pn ++ q, So ≠ some p.1)
    (hS : ∀ S, So = some S → Z.s_0.heap.objs.size ≤ S ∧ S ≠ Z.env.locals ∧ ∀ y c, Z.env.cells.lookup y = some c → c ≠ S) (k : Woke So Rel' s s') :
    ∃ ps', Held So Rel' ps' ∧ Inv Z (q ++ ps') σ H s' ∧ ∀ p ∈ ps', s'.heap.get? p.1 = some p.2 := by
  cases So with
  | none =>
    have e : ps = [] := hps
    subst e
    exact ⟨[], rfl, regens I k.os (fun b o e => k.keep b o (by simp) e) k.bare, fun p hp => by simp at hp⟩
  | some S =>
    obtain ⟨acc, c, e, _⟩ := hps
    subst e
    obtain ⟨h1, h2, h3, h4, _⟩ := I.pin (S, lstObj acc c) (List.mem_append_right _ (List.mem_append_right _ (List.mem_singleton.mpr rfl)))
    obtain ⟨acc', c', e', hR⟩ := k.own S rfl
    obtain ⟨g1, g2, g3⟩ := hS S rfl
    have I0 : Inv Z q σ H s := I.pins_of fun p hp => I.pin p (List.mem_append_right _ (List.mem_append_left _ hp))
    have nS : ∀ b u, H b = some u → b ≠ S := fun b u e z => by rw [z, h2] at e; cases e
    have kp : ∀ b o, b ≠ S → s.heap.get? b = some o → s'.heap.get? b = some o := fun b o hb e => k.keep b o (fun z => hb (Option.some.inj z).symm) e
    have ni : ∀ b : Addr, b ∉ [S] → b ≠ S := fun b hb e => hb (by rw [e]; exact List.mem_singleton.mpr rfl)
    have J : Inv Z q σ H s' := by
      refine I0.call' (ch := [S]) k.os ⟨fun b o e _ _ hx => kp b o (ni b hx) e, fun b o e _ _ hx => ⟨o.slots, kp b o (ni b hx) e⟩, fun _ _ _ n _ => n, fun b o e hx => ⟨o, kp b o (ni b hx) e⟩,
        fun _ _ e => e, fun _ _ _ e => e, fun _ _ e => ⟨#[], by rw [e]; simp⟩⟩ (fun b u e => ?_) k.bare fun b hb => ?_
      · refine (I0.hok b u e).stay (fun d v hd z => kp d v ?_ z) (fun _ z => z) fun _ _ z => z
        rcases hd with z | z
        · rw [z]; exact nS b u e
        · exact nS d _ z
      · have eb : b = S := List.mem_singleton.mp hb
        subst eb
        exact ⟨.inr g1, g2, g3, fun p hp z => hq p hp (by rw [z])⟩
    refine ⟨[(S, lstObj acc' c')], ⟨acc', c', rfl, hR⟩, J.pins_of fun p hp => ?_, fun p hp => by rw [List.mem_singleton.mp hp]; exact e'⟩
    rcases List.mem_append.mp hp with z | z
    · exact J.pin p (List.mem_append_right _ z)
    · rw [List.mem_singleton.mp z]
      exact ⟨e', h2, h3, h4, fun v z => by cases z⟩
abbrev WT := Nat → List V → Hp → Prop
/-- an item is handed out -/
def GYx (Z : Cx) (q : List (Addr × Obj)) (So : Option Addr) (Rel : List V → Array Value → Prop) (W : WT) (Ny : Nat → List V → V → Hp → Prop) : Protocol := fun n s₀ v s1 kap =>
  ∃ m ys y σ H ps, m < n + 1 ∧ RelV y v ∧ Held So (Rel ys) ps ∧ (∀ p ∈ ps, s₀.heap.get? p.1 = some p.2) ∧ Inv Z (q ++ ps) σ H s1 ∧ Ny m ys y H ∧ ∀ s', Woke So (Rel (ys ++ [y])) s1 s' → ∀ m', m' < m → W m' (ys ++ [y]) H → kap (.send .none) s'
def GFx (Z : Cx) (q : List (Addr × Obj)) (So : Option Addr) (Rel : List V → Array Value → Prop) (Ns : List V → Hp → Prop) (s₀ s1 : Shared) : Prop :=
  ∃ ys σ H ps, Held So (Rel ys) ps ∧ (∀ p ∈ ps, s₀.heap.get? p.1 = some p.2) ∧ Inv Z (q ++ ps) σ H s1 ∧ Ns ys H
abbrev GRx (Z : Cx) (q : List (Addr × Obj)) (So : Option Addr) (Rel : List V → Array Value → Prop) (Ns : List V → Hp → Prop) : GenEnd := fun n s₀ r s₁ =>
  ((r = .ok (.ret .none) ∨ r = .ok .next) ∧ (fun (_ : Nat) (t : Shared) s => GFx Z q So Rel Ns t s) n s₀ s₁) ∨ ∃ e, r = .error e ∧ (fun (_ : Value) (_ : Shared) => False) e s₁
theorem seg_turns {elt iter : Expr} {px : Pos} {pos : Pos} {it : Addr} {J : It} {tn : Nat → Heap → Prop} {te : TE} {W : WT} {Ny : Nat → List V → V → Hp → Prop} {Ns : List V → Hp → Prop} {s4 : Shared} {H4 : Hp}
    {q : List (Addr × Obj)} {So : Option Addr} {Rel : List V → Array Value → Prop}
    (S : GSc sc x) (T : Turn X.prog X.w X.K (.Name x px) J fp it tn)
    (stat : ∀ b ∈ fp, b ≠ s4.heap.objs.size ∧ b ∉ frs X.stack ∧ (∀ p ∈ q, p.1 ≠ b) ∧ So ≠ some b)
    (hq : ∀ p ∈ q, So ≠ some p.1) (hS : ∀ S', So = some S' → s4.heap.objs.size < S')
    (he : PE (gCx X A sc x code s4 H4 fp) elt te)
    (step : ∀ m ys H, W m ys H → (J.stop ys.length H ∧ Ns ys H) ∨ (J.go ys.length H ∧ ∀ v H', J.yld ys.length H v H' → te [some v] H' (Ny m ys))) :
    ∀ (n m : Nat) (ys : List V) (s₀ s : Shared) (σ : L2.St) (H : Hp) (ps : List (Addr × Obj)), m < n → Held So (Rel ys) ps → (∀ p ∈ ps, s₀.heap.get? p.1 = some p.2) → W m ys H → Inv (gCx X A sc x code s4 H4 fp) (q ++ ps) σ H s → tn ys.length s.heap → (∀ b ∈ fp, H b = none) →
      Seg (model X.prog X.w) A (GRx (gCx X A sc x code s4 H4 fp) q So Rel Ns) (GYx (gCx X A sc x code s4 H4 fp) q So Rel W Ny) n s₀
        (.compLoop (.GeneratorExp elt [⟨.Name x px, iter, [], 0⟩] sc pos) 0 (.ref it) .none (gE X sc s4.heap.objs.size code))
        ((model X.prog X.w).den (.compLoop (.GeneratorExp elt [⟨.Name x px, iter, [], 0⟩] sc pos) 0 (.ref it) .none (gE X sc s4.heap.objs.size code))) [] s := by
  have nc : ∀ {y : Str} {c : Addr}, (gCx X A sc x code s4 H4 fp).env.cells.lookup y = some c → False := fun {y c} h => no_cells S _ h
  intro n
  induction n with
  | zero => intro m _ _ _ _ _ _ hm; exact absurd hm (Nat.not_lt_zero _)
  | succ n ih =>
    intro m ys s₀ s σ H ps hm hps hs0 hW I htn hfn
    have fok : ∀ {H' : Hp}, (∀ b ∈ fp, H' b = none) → ∀ b ∈ fp, FpOk (gCx X A sc x code s4 H4 fp) (q ++ ps) H' b := fun {H'} hn b hb => by
      obtain ⟨a1, a2, a3, a4⟩ := stat b hb
      refine ⟨hn b hb, a1, a2, .inl hb, fun y c e => (nc e).elim, fun p hp => ?_⟩
      rcases List.mem_append.mp (show p ∈ q ++ ps from hp) with z | z
      · exact a3 p z
      · cases So with
        | none =>
          have e : ps = [] := hps
          rw [e] at z
          simp at z
        | some S' =>
          obtain ⟨acc, c, e, _⟩ := hps
          rw [e] at z
          rw [List.mem_singleton.mp z]
          exact fun w => a4 (by rw [← w])
    show Seg _ A _ _ _ s₀ _ ((compTurn (.GeneratorExp elt [⟨.Name x px, iter, [], 0⟩] sc pos) 0 (.ref it) .none (gE X sc s4.heap.objs.size code)).onRaise (leaving (gE X sc s4.heap.objs.size code))) [] s
    rw [compTurn_gen, Sem.onRaise_eq_wrap]
    refine seg_bind_wrap (wpAny_standAt ?_)
    rcases step m ys H hW with ⟨stop, qn⟩ | ⟨go, st⟩
    · refine seg_bind_wrap (thn (T.done (gCx X A sc x code s4 H4 fp) rfl rfl rfl rfl ys.length (q ++ ps) s σ H _ I (fok hfn) htn stop) fun r s5 ⟨hr, I5⟩ => ?_)
      subst hr
      exact seg_end (.ok .next) (.inl ⟨.inr rfl, ys, σ, H, ps, hps, hs0, I5, qn⟩)
    · refine seg_bind_wrap (thn (T.item (gCx X A sc x code s4 H4 fp) rfl rfl rfl rfl ys.length (q ++ ps) s σ H _ I (fok hfn) htn go) fun r s5 ⟨u, hr, h5⟩ => ?_)
      subst hr
      refine seg_bind_wrap (thn h5 fun _ s6 ⟨v, H6, I6, r6, y6, tn6, fn6⟩ => ?_)
      have I6' := I6.pinned (fok fn6) (T.obj _ _ tn6)
      have pg : PG (gCx X A sc x code s4 H4 fp) (.Name x px) (gName 0) := pg_name (i := 0) (List.nodup_cons.mpr ⟨by simp, List.nodup_nil⟩) rfl (.inl S.loc) (.inr S.loc)
      have eσ : σ.set 0 (some v) = [some v] := by
        have hl : σ.length = 1 := I.len
        match σ, hl with
        | [_], _ => rfl
      refine seg_bind_wrap (wpAny_mono (pg.run _ s6 σ H6 v u (fun σ' H' => σ' = [some v] ∧ H' = H6) I6' r6 ⟨eσ, rfl⟩) (fun _ s7 h7 => ?_) fun _ _ z => z.elim)
      obtain ⟨σ7, H7, I7, eσ7, eH7⟩ := h7
      subst eσ7 eH7
      simp only [List.forIn_nil]
      refine seg_bind_wrap (wpAny_pure ?_)
      simp only [if_true]
      have hy : ∀ v, yieldOut (gE X sc s4.heap.objs.size code) v = yieldValue v := fun v => by
        simp only [yieldOut, show (gE X sc s4.heap.objs.size code).scope.isCoroutine = false from S.co, Bool.false_eq_true, if_false]
      simp only [hy]
      rw [Sem.bind_eq_wrap', Sem.bind_eq_wrap', Sem.wrap_wrap, Sem.wrap_wrap]
      refine seg_wrap (wpAny_mono (he.run _ s7 [some v] H7 _ I7 (st v H7 y6)) (fun w s8 h8 => ?_) fun _ _ z => z.elim)
      obtain ⟨y, H8, I8, r8, ny⟩ := h8
      have fn8 : ∀ b ∈ fp, H8 b = none := fun b hb => by
        obtain ⟨o, e, d⟩ := T.obj _ _ tn6 b hb
        exact (I8.pin (b, o) (List.mem_append_right _ (List.mem_append_right _ (mem_pinsAt hb e)))).2.1
      have tn8 : tn (ys.length + 1) s8.heap := T.keep _ _ _ tn6 fun b hb o e => (I8.pin (b, o) (List.mem_append_right _ (List.mem_append_right _ (mem_pinsAt hb e)))).1
      refine seg_at (seg_yield rfl rfl rfl ⟨m, ys, y, [some v], H8, ps, hm, r8, hps, hs0, I8.unpinned, ny, fun s9 wk m' hm' w' => ?_⟩)
      obtain ⟨ps', hps', I9, e9⟩ := woken I8.unpinned hps (fun p hp => hq p hp) (fun S' e => ⟨Nat.le_of_lt (hS S' e), Nat.ne_of_gt (hS S' e), fun y c e => (nc e).elim⟩) wk
      refine seg_again rfl (ih m' (ys ++ [y]) s9 s9 [some v] H8 ps' (by omega) hps' e9 w' I9 ?_ fn8)
      rw [List.length_append, List.length_singleton]
      exact T.keep _ _ _ tn8 fun b hb o e => wk.keep b o (stat b hb).2.2.2 e
end
end Gx
namespace Gx
open PySem PySem.Spec PyProof.Rows L2 GenW
section
variable {X : Cx} {pins : List (Addr × Obj)} {σ : L2.St} {H : Hp} {s : Shared} {sc : Scope} {x : Str}
theorem seg_begin {A : Around} {elt iter : Expr} {px pos : Pos} {it : Addr} {J : It} {fp : List Addr} {tn : Nat → Heap → Prop} {cenv : Env} {R : GenEnd} {Y : Protocol} {n : Nat} {s₀ : Shared}
    (T : Turn X.prog X.w X.K (.Name x px) J fp it tn) (ht : tn 0 s.heap)
    (loop : Seg (model X.prog X.w) A R Y n s₀ (.compLoop (.GeneratorExp elt [⟨.Name x px, iter, [], 0⟩] sc pos) 0 (.ref it) .none cenv) ((model X.prog X.w).den (.compLoop (.GeneratorExp elt [⟨.Name x px, iter, [], 0⟩] sc pos) 0 (.ref it) .none cenv)) [] s) :
    Seg (model X.prog X.w) A R Y n s₀ (.compStart (.GeneratorExp elt [⟨.Name x px, iter, [], 0⟩] sc pos) 0 (.ref it) .none cenv) ((model X.prog X.w).den (.compStart (.GeneratorExp elt [⟨.Name x px, iter, [], 0⟩] sc pos) 0 (.ref it) .none cenv)) [] s := by
  show Seg _ A R Y n s₀ _ ((compStart (.GeneratorExp elt [⟨.Name x px, iter, [], 0⟩] sc pos) 0 (.ref it) .none cenv).onRaise (leaving cenv)) [] s
  unfold compStart
  rw [Sem.onRaise_eq_wrap]
  show Seg _ A R Y n s₀ _ ((ask >>= _).wrap _ _ _ _) [] s
  refine seg_bind_wrap (wpAny_askSetting ?_)
  split
  · exact seg_again rfl loop
  · first
      | exact seg_bind_wrap (wpAny_rule (seg_bind_wrap (wpAny_standAt (seg_bind_wrap (T.self _ 0 s _ _ ht (seg_again rfl loop))))))
      | (refine seg_bind_wrap (wpAny_rule ?_); show Seg _ A R Y n s₀ _ ((standAt iter.pos >>= _).wrap _ _ _ _) [] s; exact seg_bind_wrap (wpAny_standAt (seg_bind_wrap (T.self _ 0 s _ _ ht (seg_again rfl loop)))))
/-- the reading of a generator expression: W the state between two turns, by a measure, what was handed out, the heap -/
def tGen (P : Addr) (wi : TI) (te : TE) (NyOf : WT → Nat → List V → V → Hp → Prop) (Ns : List V → Hp → Prop) : L2.St → Hp → Prop := fun σ H =>
  wi σ H fun J H1 => GxR.TabG H1 P ∧ ∀ H2, GxR.Tabbed P H1 H2 → ∃ W : WT, (∃ m, W m [] H2) ∧ ∀ m ys H, W m ys H →
    (J.stop ys.length H ∧ Ns ys H) ∨ (J.go ys.length H ∧ ∀ v H', J.yld ys.length H v H' → te [some v] H' (NyOf W m ys))
theorem code_step {A : Around} {E : Value → Shared → Prop} {Q : Value → Shared → Prop} {c P : Addr} {gpos : Pos} (I : Inv X pins σ H s) (TB : GxR.TabB X.base X.mg c P) (hcode : X.env.code = .ref c) (hT : GxR.TabG H P)
    (h : ∀ (code : Value) (H3 : Hp) (s3 : Shared), GxR.Tabbed P H H3 → Inv X pins σ H3 s3 → (∀ b o, b ≠ P → s.heap.get? b = some o → s3.heap.get? b = some o) → Q code s3) :
    wpAny (model X.prog X.w) A (genexprCode X.env gpos (X.env.qual ++ "<genexpr>") sc) Q E s := by
  obtain ⟨ps, hP, ht⟩ := id hT
  have hPs : s.heap.get? P = some { cls := .none, data := .fields ps } := I.hok P _ hP
  have cd : PySem.W.CodeHd s.heap c P := TB.code.keeps I.bk
  cases hf : codeAmong gpos ps.toList with
  | none =>
    refine wpAny_genexprCodeX hcode (cd.code hPs ht) (cd.tab hPs) hf fun c' h' tk hx hge hlt hco' _ htab' _ => ?_
    obtain ⟨o1, vs, f1, tf, fl, tg, inF, tx, tt, op, _, _, _, _, _, _, _, _, _, htr, _⟩ := hco'
    have J := GxR.inv_tab (t' := tk) (g' := s.gens) (d' := s.drawn) I hP (fun b o hb e => hx b o hb e) htab'.2 I.bare
    exact h _ _ _ ⟨⟨_, upd_same, htr⟩, fun b hb => upd_ne hb⟩ J fun b o hb e => hx b o hb e
  | some cv =>
    refine wpAny_genexprCode_hit hcode (cd.code hPs ht) hf ?_
    exact h _ H s ⟨hT, fun _ _ => rfl⟩ I fun _ _ _ e => e
end
end Gx
namespace Gx
open PySem PySem.Spec PyProof.Rows L2 GenW
section
variable {X : Cx} {pins : List (Addr × Obj)} {σ : L2.St} {H : Hp} {s : Shared} {sc : Scope} {x : Str}
/-- a generator that has not begun, at a in s5 -/
def Begun1 (X : Cx) (pins : List (Addr × Obj)) (σ : L2.St) (k : Nat) (Rel : List V → Array Value → Prop) (NyOf : WT → Nat → List V → V → Hp → Prop) (Ns : List V → Hp → Prop) (a : Addr) (s5 : Shared) : Prop :=
  ∃ (g : Nat) (c : Code) (H4 : Hp), s5.heap.IsGen a g ∧ s5.gens[g]? = some (.fresh c) ∧ Inv X pins σ H4 s5 ∧ a < s5.heap.objs.size ∧
    ∀ (A : Around) (So : Option Addr) (s6 : Shared), Room (k + 1) A → A.frames = some X.stack → (∀ S, So = some S → s5.heap.objs.size ≤ S ∧ ∃ acc c, s6.heap.get? S = some (lstObj acc c) ∧ Rel [] acc) →
      (∀ b o, s5.heap.get? b = some o → s6.heap.get? b = some o) → s6.os = s5.os → AllBare s6.gens →
      ∃ (Z : Cx) (q : List (Addr × Obj)) (W : WT) (m0 : Nat),
        (∀ ps σz Hz s7, Inv Z (q ++ ps) σz Hz s7 → Inv X pins σ Hz s7 ∧ s7.heap.IsGen a g) ∧
        Seg (model X.prog X.w) A (GRx Z q So Rel Ns) (GYx Z q So Rel W (NyOf W)) (m0 + 1) s6 c ((model X.prog X.w).den c) [] s6
theorem gx_make {elt iter : Expr} {px gpos : Pos} {c P : Addr} {wi : TI} {te : TE} {k j : Nat} {Rel : List V → Array Value → Prop} {NyOf : WT → Nat → List V → V → Hp → Prop} {Ns : List V → Hp → Prop} {Q' : Value → Shared → Prop}
    (hr : Room j X.A) (TB : GxR.TabB X.base X.mg c P) (hcode : X.env.code = .ref c) (S : GSc sc x) (hi : PI X (.Name x px) iter wi)
    (he : ∀ (A : Around) (code : Value) (s4 : Shared) (H4 : Hp) (fp : List Addr), Room k (A.deeper (gE X sc s4.heap.objs.size code)) → PE (gCx X A sc x code s4 H4 fp) elt te)
    (hs : ∀ v, genFold iter X.env v = pure v) (I : Inv X pins σ H s) (h : tGen P wi te NyOf Ns σ H)
    (hQ : ∀ a s5, Begun1 X pins σ k Rel NyOf Ns a s5 → Q' (.ref a) s5) :
    wpAny (model X.prog X.w) X.A (eval (.GeneratorExp elt [⟨.Name x px, iter, [], 0⟩] sc gpos) X.env) Q' X.xe s := by
  refine wpAny_GeneratorExp_make S.co (closure_ok fun y hy z => absurd z (S.free y hy)) S.cell S.dot S.kind hr.depth ?_ hs
  refine thn (hi.run pins s σ H _ I h) fun xv s1 h1 => thn h1 fun itv s2 h2 => ?_
  obtain ⟨it, fp, tn, J, H2, e, I2, T, st2, f2, hT, hW⟩ := h2
  subst e
  refine ⟨I2.nolimit, code_step I2 TB hcode hT fun code H3 s3 hTb I3 kp3 => ?_⟩
  obtain ⟨bm, ob, e1, e2, e3, e4, e5, e6, e7, e8⟩ := TB.bm
  refine wpAny_builtinsFor (m := X.mg) (by rw [I3.ok.glob]; exact I3.mod.glob.keeps I3.bk) e1 e2 (I3.bk _ _ e5) e6 e7 e8 fun h' hn' hs' => ?_
  obtain ⟨W, ⟨m0, w0⟩, step⟩ := hW H3 hTb
  have hTP : H2 P ≠ none := by
    obtain ⟨ps, z, _⟩ := hT
    rw [z]; exact fun q => nomatch q
  have nP : ∀ b ∈ fp, b ≠ P := fun b hb z => hTP (by rw [← z]; exact (f2 b hb).1)
  have f3 : ∀ b ∈ fp, FpOk X pins H3 b := fun b hb => ⟨(hTb.2 b (nP b hb)).trans (f2 b hb).1, (f2 b hb).2⟩
  have tn3 : tn 0 s3.heap := T.keep _ _ _ st2 fun b hb o q => kp3 b o (nP b hb) q
  have lt3 : ∀ b ∈ fp, b < s3.heap.objs.size := fun b hb => by
    obtain ⟨o, q, _⟩ := T.obj _ _ tn3 b hb
    exact Heap.lt_size q
  have hsz : h'.objs.size = s3.heap.objs.size + 1 := by rw [hs'.1, Heap.size_push]
  have kp' : ∀ b o, s3.heap.get? b = some o → h'.get? b = some o := fun b o q => hs'.extBut b o (Nat.ne_of_lt (Heap.lt_size q)) (Heap.get?_push_of_some _ q)
  refine hQ _ _ ⟨s3.gens.size, _, H3, ⟨_, _, _, Heap.get?_push_size _ rfl, rfl, rfl, rfl⟩, Array.getElem?_push_size .., ?_, ?_, fun A So s6 hrA hfr hSo kp6 os6 b6 => ?_⟩
  · exact regens I3 rfl (fun b o q => Heap.get?_push_of_some _ (kp' b o q)) (AllBare.push I3.bare rfl)
  · show h'.objs.size < (h'.push _).objs.size
    rw [Heap.size_push]; exact Nat.lt_succ_self _
  · have kp36 : ∀ b o, s3.heap.get? b = some o → s6.heap.get? b = some o := fun b o q => kp6 b o (Heap.get?_push_of_some _ (kp' b o q))
    have hns6 : s6.heap.Ns s3.heap.objs.size (fun y => if y = ".0" then some (.ref it) else none) := by
      obtain ⟨o, es, ep, ho, r⟩ := hn'
      exact ⟨o, es, ep, kp6 _ _ (Heap.get?_push_of_some _ ho), r⟩
    have IZ := gx_inv (code := code) (A := A) I3 S hrA.hd hfr f3 lt3 (s5 := s6) os6 b6 kp36 hns6
    have big : ∀ b, s3.heap.objs.size < b → H3 b = none ∧ b ≠ s3.heap.objs.size ∧ b ∉ frs X.stack := fun b hb => by
      refine ⟨I3.hok.fresh (Nat.le_of_lt hb), Nat.ne_of_gt hb, fun z => ?_⟩
      rcases List.mem_cons.mp (I3.stkSub b z) with w | w
      · exact absurd (Nat.lt_trans (by rw [w]; exact I3.lt) hb) (Nat.lt_irrefl _)
      · exact I3.nofs (Nat.le_of_lt hb) w
    have ha : s3.heap.objs.size < h'.objs.size := by rw [hsz]; exact Nat.lt_succ_self _
    have hga := kp6 h'.objs.size _ (Heap.get?_push_size _ rfl)
    have hSb : ∀ S', So = some S' → h'.objs.size < S' := fun S' z => by
      have q := (hSo S' z).1
      have q' : (h'.push _).objs.size ≤ S' := q
      rw [Heap.size_push] at q'
      exact q'
    obtain ⟨ps, hps, IZ2⟩ : ∃ ps, Held So (Rel []) ps ∧ Inv (gCx X A sc x code s3 H3 fp) ([(h'.objs.size, _)] ++ ps) [none] H3 s6 := by
      cases So with
      | none =>
        refine ⟨[], rfl, IZ.pins_of fun p hp => ?_⟩
        rw [List.append_nil] at hp
        rw [List.mem_singleton.mp hp]
        obtain ⟨b1, b2, b3⟩ := big _ ha
        exact ⟨hga, b1, b2, b3, fun v z => by cases z⟩
      | some S' =>
        obtain ⟨_, acc, cc, q2, hR⟩ := hSo S' rfl
        refine ⟨[(S', lstObj acc cc)], ⟨acc, cc, rfl, hR⟩, IZ.pins_of fun p hp => ?_⟩
        rcases List.mem_append.mp hp with z | z
        · rw [List.mem_singleton.mp z]
          obtain ⟨b1, b2, b3⟩ := big _ ha
          exact ⟨hga, b1, b2, b3, fun v z => by cases z⟩
        · rw [List.mem_singleton.mp z]
          obtain ⟨b1, b2, b3⟩ := big _ (Nat.lt_trans ha (hSb S' rfl))
          exact ⟨q2, b1, b2, b3, fun v z => by cases z⟩
    have hSne : ∀ b, b ≤ h'.objs.size → So ≠ some b := fun b hb z => absurd (Nat.lt_of_lt_of_le (hSb b z) hb) (Nat.lt_irrefl _)
    refine ⟨gCx X A sc x code s3 H3 fp, [(h'.objs.size, { cls := .type "generator", data := .fields #[.int s3.gens.size 0, .str "<genexpr>" (s3.toks + 1), .str (X.env.qual ++ "<genexpr>") (s3.toks + 1 + 1)] })], W, m0, fun ps σz Hz s7 J7 => ⟨?_, ?_⟩, ?_⟩
    · refine I3.call' (ch := fp) J7.os J7.base J7.hok J7.bare fun b hb => ?_
      obtain ⟨_, a2, _, a4, a5, a6⟩ := f3 b hb
      exact ⟨a4, a2, a5, a6⟩
    · exact ⟨_, _, _, (J7.pin _ (List.mem_append_right _ (List.mem_append_left _ (List.mem_singleton.mpr rfl)))).1, rfl, rfl, rfl⟩
    · refine seg_begin T (T.keep _ _ _ tn3 fun b hb o q => kp36 b o q) ?_
      refine seg_turns S T (fun b hb => ⟨Nat.ne_of_lt (lt3 b hb), fun z => ?_, fun p hp z => ?_, hSne b (Nat.le_of_lt (Nat.lt_trans (lt3 b hb) ha))⟩) (fun p hp => ?_) (fun S' z => Nat.lt_trans ha (hSb S' z)) (he A code s3 H3 fp (hrA.deeper _)) step
        (m0 + 1) m0 [] s6 s6 [none] H3 ps (Nat.lt_succ_self _) hps (fun p hp => (IZ2.pin p (List.mem_append_right _ (List.mem_append_right _ hp))).1) w0 IZ2 (T.keep _ _ _ tn3 fun b hb o q => kp36 b o q) fun b hb => (f3 b hb).1
      · rcases List.mem_cons.mp (I3.stkSub b z) with w | w
        · exact (f3 b hb).2.1 w
        · exact (f3 b hb).2.2.1 w
      · rw [List.mem_singleton.mp hp] at z
        have q : h'.objs.size = b := z
        exact absurd (Nat.lt_trans (lt3 b hb) ha) (by rw [q]; exact Nat.lt_irrefl _)
      · rw [List.mem_singleton.mp hp]
        exact hSne _ (Nat.le_refl _)
end
end Gx
namespace Gx
open PySem PySem.Spec PyProof.Rows L2 GenW
section
variable {X : Cx} {pins : List (Addr × Obj)} {σ : L2.St} {H : Hp} {s : Shared} {sc : Scope} {x : Str}
def NyAll (Qb : Bool → Hp → Prop) (W : WT) : Nat → List V → V → Hp → Prop := fun m ys y H => ∃ b : Bool, y = .bl b ∧ if b = true then ∃ m', m' < m ∧ W m' (ys ++ [y]) H else Qb false H
abbrev noRel : List V → Array Value → Prop := fun _ _ => True
theorem all_turns {Z : Cx} {q : List (Addr × Obj)} {W : WT} {Qb : Bool → Hp → Prop} {A : Around} {a : Addr} {g : Nat} {Rr : Result → Shared → Prop} (hh : A.handled = none) (hd : A.depth < recursionLimit)
    (fin : ∀ ps σz Hz s7, Inv Z (q ++ ps) σz Hz s7 → Inv X pins σ Hz s7 ∧ s7.heap.IsGen a g)
    (hdone : ∀ b H' s', Inv X pins σ H' s' → Qb b H' → Rr (.ok (.ret (.bool b))) s') :
    ∀ (n : Nat) (s : Shared), s.heap.IsGen a g → s.heap.NoLimit →
      (∃ gs, s.gens[g]? = some gs ∧ gs.Goes (model X.prog X.w) A.in1.in1 (GRx Z q none noRel fun _ => Qb true) (GYx Z q none noRel W (NyAll Qb W)) n (.send .none) (s.setGen g .running)) →
      codeAny (model X.prog X.w) A (.builtin "all.loop" ⟨[.ref a], []⟩) Rr s := by
  intro n
  induction n using Nat.strongRecOn with
  | ind n ih =>
    intro s hg hl ⟨gs, hgs, hgo⟩
    have hgl : g < s.gens.size := (Array.getElem?_eq_some_iff.mp hgs).1
    refine codeAny_builtin F.entry_all_loop ?_; rw [Around.under_plainId F.plain_all_loop _]
    show wpAny _ A.in1 (pyNext (.ref a) >>= _) _ _ s
    refine wpAny_bind (wpAny_gsz (n := g + 1) hgl (next_genG (A := A.in1) hh hl hd hg hgs hgo (fun v s₁ gs' hbare hv => ?_) (fun s₁ hp h' hk => ?_) fun e s₁ he => he.elim))
    · intro hsz
      obtain ⟨m, ys, y, σz, Hz, ps, hm, rv, hps, _, J, ⟨b, eb, hb⟩, hkap⟩ := hv
      subst eb
      have eps : ps = [] := hps
      subst eps
      have ev : v = Value.bool b := rv
      subst ev
      obtain ⟨I1, g1⟩ := fin _ _ _ _ J
      have hsz1 : g < s₁.gens.size := by
        have q1 : (s₁.setGen g gs').gens.size = s₁.gens.size := setGen_size _ _ _
        have q2 : g + 1 ≤ (s₁.setGen g gs').gens.size := hsz
        omega
      have bare2 : AllBare (s₁.setGen g gs').gens := allBare_setGen I1.bare hbare
      refine wpAny_bind (wpAny_holding (wpAny_truthy_bool ?_))
      refine wpAny_bind (wpAny_letGo ?_)
      cases b with
      | true =>
        obtain ⟨m', hm', hw⟩ : ∃ m', m' < m ∧ W m' (ys ++ [V.bl true]) Hz := by simpa using hb
        simp only [if_true]
        cases n with
        | zero => omega
        | succ n =>
          refine wpAny_pure ⟨plainId_quiet F.plain_all_loop _, ih n (Nat.lt_succ_self n) (s₁.setGen g gs') g1 I1.nolimit ⟨gs', setGen_at hsz1, ?_⟩⟩
          exact hkap ((s₁.setGen g gs').setGen g .running) ⟨rfl, allBare_setGen bare2 rfl, fun b o _ e => e, fun S z => by cases z⟩ m' hm' hw
      | false =>
        have hq : Qb false Hz := by simpa using hb
        simp only [Bool.false_eq_true, if_false]
        exact wpAny_bind (wpAny_rule (wpAny_pure (hdone false Hz _ (regens I1 rfl (fun _ _ e => e) bare2) hq)))
    · intro hsz
      obtain ⟨ys, σz, Hz, ps, hps, _, J, hq⟩ := hp
      have eps : ps = [] := hps
      subst eps
      obtain ⟨I1, g1⟩ := fin _ _ _ _ J
      exact wpAny_bind (wpAny_rule (wpAny_pure (hdone true Hz _ (regens I1 rfl (fun b o e => hk b o e) (allBare_setGen I1.bare rfl)) hq)))
/-- all(elt for x in iter) -/
def tAllG (P : Addr) (wi : TI) (te : TE) : TE := fun σ H Q => tGen P wi te (NyAll fun b H => Q (.bl b) H) (fun _ H => Q (.bl true) H) σ H
theorem pe_allG {elt iter : Expr} {px p pos gpos : Pos} {c P : Addr} {wi : TI} {te : TE} {k : Nat}
    (hr : Room (k + 3) X.A) (hg : Gl X "all") (hm : X.mg "all" = none) (TB : GxR.TabB X.base X.mg c P) (hcode : X.env.code = .ref c) (S : GSc sc x) (hi : PI X (.Name x px) iter wi)
    (he : ∀ (A : Around) (code : Value) (s4 : Shared) (H4 : Hp) (fp : List Addr), Room k (A.deeper (gE X sc s4.heap.objs.size code)) → PE (gCx X A sc x code s4 H4 fp) elt te)
    (hs : ∀ v, genFold iter X.env v = pure v)
    (hst : starEach [.GeneratorExp elt [⟨.Name x px, iter, [], 0⟩] sc gpos] X.env = (false, eval (.GeneratorExp elt [⟨.Name x px, iter, [], 0⟩] sc gpos) X.env) :: starEach [] X.env := by rfl) :
    PE X (.Call (.Name "all" p) [.GeneratorExp elt [⟨.Name x px, iter, [], 0⟩] sc gpos] [] pos) (tAllG P wi te) := by
  refine ⟨fun pins s σ H Q I h => ?_⟩
  have hb : bootBuiltins "all" = some (.builtin "all") := by decide +kernel
  refine wpAny_Call_Name_kw (ld_blt I hg hm hb (PyProof.Rows.callWith_builtin1 ?_ hst (by rfl)))
  rw [hst]
  show wpAny _ _ (spliced ((false, eval (.GeneratorExp elt [⟨.Name x px, iter, [], 0⟩] sc gpos) X.env) :: backTo pos (starEach [] X.env))) _ _ s
  refine Calls.spliced_cons (gx_make (k := k) (Rel := noRel) hr TB hcode S hi he hs I h fun a s5 hB => Calls.spliced_nil ?_)
  obtain ⟨g, cd, H4, hgen, hfresh, I5, ha, wake⟩ := hB
  refine call_function_tree F.kind_all F.plain_all F.entry_all (F.args_all1 _) ?_
  unfold Builtin.«all»
  refine wpAny_bind (m := oneArg "all" _) (wpAny_pure (wpAny_bind (wpAny_pyIter_gen hgen ?_)))
  obtain ⟨Z, q, W, m0, fin, seg⟩ := wake X.A.in1.in1 none (s5.setGen g .running) ((hr.mono (by omega : k + 1 + 1 + 1 ≤ k + 3)).in1.in1) I.ok.frames (fun S z => by cases z) (fun _ _ e => e) rfl (allBare_setGen I5.bare rfl)
  refine wpAny_pure ⟨plainId_quiet F.plain_all_loop _, all_turns (Qb := fun b H => Q (.bl b) H) hr.hd hr.depth fin (fun b H' s' I' hq => ?_) (m0 + 1) s5 hgen I5.nolimit ⟨_, hfresh, rfl, seg⟩⟩
  exact ⟨.bl b, H', I', rfl, hq⟩
end
end Gx
namespace Gx
open PySem PySem.Spec PyProof.Rows L2 GenW
section
variable {X : Cx} {pins : List (Addr × Obj)} {σ : L2.St} {H : Hp} {s : Shared} {sc : Scope} {x : Str}
def MaxRel (ys : List V) (acc : Array Value) : Prop :=
  ∃ ns : List Int, ys = ns.map V.int ∧ ((ns = [] ∧ acc = #[]) ∨ ∃ b t, acc = #[.int b t, .int b t] ∧ b ∈ ns ∧ ∀ z ∈ ns, z ≤ b)
def NsMax (Qm : Int → Hp → Prop) : List V → Hp → Prop := fun ys H => ∃ ns : List Int, ys = ns.map V.int ∧ ns ≠ [] ∧ ∀ b, b ∈ ns → (∀ z ∈ ns, z ≤ b) → Qm b H
theorem map_int_inj {a b : List Int} (h : a.map V.int = b.map V.int) : a = b := by
  induction a generalizing b with
  | nil => cases b with
    | nil => rfl
    | cons _ _ => cases h
  | cons x a ih => cases b with
    | nil => cases h
    | cons y b =>
      rw [List.map_cons, List.map_cons] at h
      injection h with h1 h2
      injection h1 with h1
      rw [h1, ih h2]
theorem MaxRel.first {i : Int} {t : Tok} {ys : List V} (h : MaxRel ys #[]) : MaxRel (ys ++ [.int i]) #[.int i t, .int i t] := by
  obtain ⟨ns, rfl, h | ⟨b, u, e, _⟩⟩ := h
  · rw [h.1]
    exact ⟨[i], rfl, .inr ⟨i, t, rfl, by simp, by simp⟩⟩
  · have := congrArg Array.size e
    simp at this
theorem MaxRel.more {i b : Int} {t u : Tok} {ys : List V} (h : MaxRel ys #[.int b u, .int b u]) : MaxRel (ys ++ [.int i]) (if decide (i > b) = true then #[.int i t, .int i t] else #[.int b u, .int b u]) := by
  obtain ⟨ns, rfl, h | ⟨b', u', e, hb, hm⟩⟩ := h
  · have := congrArg Array.size h.2
    simp at this
  · have e' : b = b' := by
      have := congrArg (fun a : Array Value => a[0]?) e
      simp at this
      exact this.1
    subst e'
    refine ⟨ns ++ [i], by simp, .inr ?_⟩
    by_cases hi : i > b
    · rw [if_pos (decide_eq_true hi)]
      refine ⟨i, t, rfl, by simp, fun z hz => ?_⟩
      rcases List.mem_append.mp hz with q | q
      · exact Int.le_of_lt (Int.lt_of_le_of_lt (hm z q) hi)
      · rw [List.mem_singleton.mp q]; exact Int.le_refl _
    · rw [if_neg (by rw [decide_eq_false hi]; exact Bool.false_ne_true)]
      refine ⟨b, u, rfl, List.mem_append_left _ hb, fun z hz => ?_⟩
      rcases List.mem_append.mp hz with q | q
      · exact hm z q
      · rw [List.mem_singleton.mp q]; omega
theorem MaxRel.last {b : Int} {u : Tok} {ys : List V} {Qm : Int → Hp → Prop} (h : MaxRel ys #[.int b u, .int b u]) (q : NsMax Qm ys H) : Qm b H := by
  obtain ⟨ns, rfl, h | ⟨b', u', e, hb, hm⟩⟩ := h
  · have := congrArg Array.size h.2
    simp at this
  · have e' : b = b' := by
      have := congrArg (fun a : Array Value => a[0]?) e
      simp at this
      exact this.1
    subst e'
    obtain ⟨ms, e1, _, hq⟩ := q
    rw [map_int_inj e1] at hb hm
    exact hq b hb hm
theorem MaxRel.none {ys : List V} {Qm : Int → Hp → Prop} (h : MaxRel ys #[]) (q : NsMax Qm ys H) : False := by
  obtain ⟨ns, rfl, h | ⟨b', u', e, hb, hm⟩⟩ := h
  · obtain ⟨ms, e1, h2, _⟩ := q
    rw [h.1] at e1
    exact h2 (map_int_inj e1).symm
  · have := congrArg Array.size e
    simp at this
end
end Gx
namespace TG
open PySem L2
def top (i : Nat) : Stmt := PySem.Challenge.pw_tabgrow_k38_whole_refused_and_let_later.main.body.getD i (.Pass ⟨0, 0, 0, 0⟩)
abbrev s_is_whole : Stmt := top 20
abbrev s_is_sign : Stmt := top 21
abbrev s_is_text : Stmt := top 22
abbrev s_filled : Stmt := top 23
abbrev s_is_row : Stmt := top 24
abbrev s_misfit : Stmt := top 25
abbrev s_check_page : Stmt := top 26
abbrev s_check_style : Stmt := top 27
abbrev s_written : Stmt := top 29
abbrev s_rows_of : Stmt := top 30
abbrev s_begun : Stmt := top 40
abbrev s_take : Stmt := top 41
abbrev s_alike : Stmt := top 42
abbrev s_sign : Stmt := top 43
abbrev s_told : Stmt := top 44
abbrev s_refused : Stmt := top 45
abbrev s_pressed_again : Stmt := top 46
abbrev s_rubbed_back : Stmt := top 47
abbrev s_law : Stmt := top 48
/-- the built-ins that the text calls are the built-ins still -/
structure Txt (mg : Str → Option Value) : Prop where
  isin : mg "isinstance" = none
  len : mg "len" = none
  range : mg "range" = none
  max : mg "max" = none
  min : mg "min" = none
  all : mg "all" = none
  str : mg "str" = none
  int : mg "int" = none
  bool : mg "bool" = none
  list : mg "list" = none
  tuple : mg "tuple" = none
  enum : mg "enumerate" = none
  ord : mg "ord" = none
def BoxAt (H : Hp) (b l : Addr) : Prop := ∃ (ns : List Int) (st : Int), H b = some (.lst [.ref l, .int st]) ∧ H l = some (.lst (ns.map V.int)) ∧ ns.length ≤ 63
/-- all but the box stays -/
def KB (b l : Addr) (H H' : Hp) : Prop := ∀ c o, H c = some o → c ≠ b → c ≠ l → H' c = some o
theorem KB.refl {b l : Addr} {H : Hp} : KB b l H H := fun _ _ h _ _ => h
theorem KB.trans {b l : Addr} {H H1 H2 : Hp} (x : KB b l H H1) (y : KB b l H1 H2) : KB b l H H2 := fun c o h n m => y c o (x c o h n m) n m
theorem box_ne {H : Hp} {b l : Addr} (x : BoxAt H b l) : b ≠ l := by
  obtain ⟨ns, st, h1, h2, _⟩ := x
  refine ne_of h1 h2 fun z => ?_
  injection z with z
  cases ns with
  | nil => cases z
  | cons n ns =>
    rw [List.map_cons] at z
    injection z with z _
    cases z
theorem nz {i : Int} (h : i ≠ 0) : i ≠ 0 := h
theorem at0 {α : Type} {v : α} {xs : List α} : atI (v :: xs) 0 = some v := atI_nat (j := 0) rfl
theorem ix0 {n : Nat} : ixN (n + 1) 0 = some 0 := by
  unfold ixN
  rw [if_pos (by decide), if_pos (by omega)]
  rfl
theorem small0 : ([] : List V).length ≤ sizeLine := Nat.zero_le _
theorem dp_ints {K : PySem.W.Frag} {H : Hp} : ∀ ns : List Int, DpAll K H (ns.map V.int) (ns.map PyData.int)
  | [] => .nil
  | n :: ns => .cons (.int n) (dp_ints ns)
theorem canAll_ints : ∀ ns : List Int, PyData.canLayAll0 (ns.map PyData.int) = true
  | [] => rfl
  | _ :: r => by simp [PyData.canLayAll0, PyData.canLay0, canAll_ints r]
theorem depthAll_ints : ∀ ns : List Int, PyData.depthAll (ns.map PyData.int) = 0
  | [] => rfl
  | _ :: r => by simp [PyData.depthAll, PyData.depth, depthAll_ints r]
theorem shaped_of_ints (ns : List Int) : SeqAt.shaped (.list (ns.map PyData.int)) = true := by
  simp [SeqAt.shaped, PyData.canLay0, PyData.depth, canAll_ints, depthAll_ints]
def spTake : Sp := fun vs H Q _ => ∃ (b l : Addr) (many : Int), vs = [.ref b, .int many] ∧ BoxAt H b l ∧ 0 < many ∧ many < 1073741824 ∧
  ∀ (r : Int) (H' : Hp), 0 ≤ r → r < many → BoxAt H' b l → KB b l H H' → Q (.int r) H'
section
variable {P : Program} {w : World} {K : PySem.W.Frag} {mg : Str → Option Value} {base : Heap}
theorem sc_take : FnScope ["_law_box", "_law_many", "_law_number"] ["_law_box", "_law_many"] (defScope s_take) := ⟨rfl, rfl, rfl, by decide +kernel, rfl, by decide +kernel, by decide +kernel⟩
theorem ok_take {f : Addr} {fd : FuncData} (F : Fun K "_law_take" "_law_take" s_take f fd) : FnOk P w K mg base CX0 1 f fd ["_law_box", "_law_many"] spTake := by
  refine F.ok sc_take (fun vs H Q E h => ?_) (fun cdv A outer s H vs Q E hr h => ?_)
  · obtain ⟨b, l, many, rfl, _⟩ := h
    rfl
  · obtain ⟨b, l, many, rfl, hB, m0, m1, k⟩ := h
    have nd := sc_take.nd
    have hu := hr.units
    refine ⟨_, pss_cons (ps_if (pt_cmpR (op_eqD hu) (pe_ix ix_list (pv 0) pe_int (fun _ _ => rfl)) (pe_lst pa_nil) (nomark _))
        (pss_cons (ps_asg (pe_op op_modN (pe_op op_mul (pe_ix ix_list (pv 0) pe_int (fun _ _ => rfl)) pe_int) pe_int) (pg_sub (pv 0) pe_int set_list))
          (pss_one (ps_ret (pe_op op_modN (pe_op op_fdivN (pe_ix ix_list (pv 0) pe_int (fun _ _ => rfl)) pe_int) (pv 1))))) pss_nil)
      (pss_cons (ps_set (i := 2) nd rfl (.inl rfl) (pe_ix ix_list (pe_ix ix_list (pv 0) pe_int (fun _ _ => rfl)) pe_int (fun _ _ => rfl)))
      (pss_cons (ps_asg (pe_op op_fdivN (pv 2) (pv 1)) (pg_sub (pe_ix ix_list (pv 0) pe_int (fun _ _ => rfl)) pe_int set_list))
      (pss_cons (ps_if (PW.pt (pw_or (pt_cmpR op_eq (pe_ix ix_list (pe_ix ix_list (pv 0) pe_int (fun _ _ => rfl)) pe_int (fun _ _ => rfl)) pe_int (nomark _)) (pw_or1 (pt_cmpR op_eq (pe_ix ix_list (pe_ix ix_list (pv 0) pe_int (fun _ _ => rfl)) pe_int (fun _ _ => rfl)) (pe_un un_neg pe_int) (nomark _)))))
          (pss_one (ps_expr (pe_bm PySem.F.plainAttrs_list PySem.F.slot_list_pop PySem.F.type_list_pop mt_popAt (pe_ix ix_list (pv 0) pe_int (fun _ _ => rfl)) (pa_cons pe_int pa_nil)))) pss_nil)
      (pss_one (ps_ret (pe_op op_modN (pv 2) (pv 1))))))), ?_⟩
    obtain ⟨ns, st, h1, h2, h3⟩ := id hB
    have nbl := box_ne hB
    have len2 : ∀ o, (upd H b o) l = some (.lst (ns.map V.int)) := fun o => by rw [upd_ne nbl.symm]; exact h2
    -- _law_box[0] == []
    refine ⟨_, rfl, b, _, 0, .ref l, rfl, rfl, SqL.of h1, rfl, small0, fun p np => ?_⟩
    have npb : b ≠ p := ne_of_none h1 np
    have npl : l ≠ p := ne_of_none h2 np
    have g1 : (upd H p (.lst [])) b = some (.lst [.ref l, .int st]) := by rw [upd_ne npb]; exact h1
    have g2 : (upd H p (.lst [])) l = some (.lst (ns.map V.int)) := by rw [upd_ne npl]; exact h2
    have kp : KB b l H (upd H p (.lst [])) := fun c o e _ _ => by rw [upd_ne (ne_of_none e np)]; exact e
    refine ⟨.list (ns.map PyData.int), .list [], .lst (SqL.of g2) (dp_ints ns), .lst (SqL.of upd_same) .nil, shaped_of_ints ns, rfl, _, rfl, ?_⟩
    cases ns with
    | nil =>
      refine iteT ?_
      refine ⟨_, rfl, b, _, 1, .int st, rfl, rfl, SqL.of g1, rfl, st, 48271, rfl, rfl, .inr (by decide), _, _, rfl, rfl, nz (by decide), _, rfl, b, _, 1, 1, rfl, rfl, g1, rfl, ?_⟩
      refine ⟨_, rfl, b, _, 1, _, rfl, rfl, SqL.of upd_same, rfl, _, _, rfl, rfl, ⟨by decide, by decide⟩, _, rfl, _, _, rfl, rfl, nz (by omega), ?_⟩
      refine k _ _ (Int.fmod_nonneg_of_pos _ m0) (Int.fmod_lt_of_pos _ m0) ⟨[], _, upd_same, by rw [upd_ne nbl.symm]; exact g2, h3⟩ fun c o e hc hl => ?_
      rw [upd_ne hc]
      exact kp c o e hc hl
    | cons n ns =>
      refine iteF ?_
      refine ⟨_, rfl, b, _, 0, .ref l, rfl, rfl, SqL.of g1, rfl, l, _, 0, .int n, rfl, rfl, SqL.of g2, at0, ?_⟩
      refine ⟨_, rfl, _, rfl, n, many, rfl, rfl, ⟨by omega, by omega⟩, _, rfl, b, _, 0, .ref l, rfl, rfl, SqL.of g1, rfl, l, _, 0, 0, rfl, rfl, g2, ix0, ?_⟩
      have j1 : ∀ o, (upd (upd H p (.lst [])) l o) b = some (.lst [.ref l, .int st]) := fun o => by rw [upd_ne nbl]; exact g1
      have kl : ∀ o, KB b l H (upd (upd H p (.lst [])) l o) := fun o c u e hc hl => by rw [upd_ne hl]; exact kp c u e hc hl
      have fin : ∀ ms : List Int, ms.length ≤ 63 → Q (.int (n.fmod many)) (upd (upd H p (.lst [])) l (.lst (ms.map V.int))) := fun ms hm =>
        k _ _ (Int.fmod_nonneg_of_pos _ m0) (Int.fmod_lt_of_pos _ m0) ⟨ms, st, j1 _, upd_same, hm⟩ (kl _)
      have e0 : (List.map V.int (n :: ns)).set 0 (V.int (n.fdiv many)) = List.map V.int (n.fdiv many :: ns) := rfl
      rw [e0]
      -- == 0 or == -1
      refine ⟨_, rfl, b, _, 0, .ref l, rfl, rfl, SqL.of (j1 _), rfl, l, _, 0, .int (n.fdiv many), rfl, rfl, SqL.of upd_same, at0, rfl, _, rfl, ?_⟩
      have done : ∀ H', (∃ ms : List Int, ms.length ≤ 63 ∧ H' = upd (upd H p (.lst [])) l (.lst (ms.map V.int))) → ∃ v, ([some (V.ref b), some (V.int many), some (V.int n)] : L2.St)[2]? = some (some v) ∧ ∃ v_1, ([some (V.ref b), some (V.int many), some (V.int n)] : L2.St)[1]? = some (some v_1) ∧ ∃ i j, v = V.int i ∧ v_1 = V.int j ∧ j ≠ 0 ∧ Q (V.int (i.fmod j)) H' := fun H' ⟨ms, hm, e⟩ => by
        subst e
        exact ⟨_, rfl, _, rfl, n, many, rfl, rfl, nz (by omega), fin ms hm⟩
      have pop : ∀ Z : VK, (∀ y H', H' = upd (upd H p (.lst [])) l (.lst (ns.map V.int)) → Z y H') → rPopAt (.ref l) [.int 0] (upd (upd H p (.lst [])) l (.lst (List.map V.int (n.fdiv many :: ns)))) Z := fun Z hZ =>
        ⟨l, _, 0, 0, _, rfl, rfl, upd_same, by decide, by decide, by simp [seqIndex?], rfl, hZ _ _ (by rw [upd_upd]; rfl)⟩
      have h3' : ns.length ≤ 63 := by simp at h3; omega
      by_cases hz : n.fdiv many = 0
      · rw [decide_eq_true (show V.int (n.fdiv many) = V.int 0 by rw [hz])]
        refine iteT (iteT ⟨_, rfl, b, _, 0, .ref l, rfl, rfl, SqL.of (j1 _), rfl, .inl ⟨rfl, _, SqL.of upd_same⟩, pop _ fun y H' e => done H' ⟨ns, h3', e⟩⟩)
      · rw [decide_eq_false (show ¬ V.int (n.fdiv many) = V.int 0 from fun z => hz (by injection z))]
        refine iteF ⟨_, rfl, b, _, 0, .ref l, rfl, rfl, SqL.of (j1 _), rfl, l, _, 0, .int (n.fdiv many), rfl, rfl, SqL.of upd_same, at0, 1, rfl, rfl, _, rfl, ?_⟩
        refine ite2 (fun _ => ⟨_, rfl, b, _, 0, .ref l, rfl, rfl, SqL.of (j1 _), rfl, .inl ⟨rfl, _, SqL.of upd_same⟩, pop _ fun y H' e => done H' ⟨ns, h3', e⟩⟩) fun _ => ?_
        exact done _ ⟨n.fdiv many :: ns, h3, rfl⟩
end
end TG
namespace TG
open PySem L2
section
variable {P : Program} {w : World} {K : PySem.W.Frag} {mg : Str → Option Value} {base : Heap}
def spBegun (K : PySem.W.Frag) : Sp := fun vs H Q _ => ∃ (a : Addr) (ns : List Int), vs = [.ref a] ∧ SqL K H a (ns.map V.int) ∧ ns.length ≤ 63 ∧
  ∀ (b l : Addr) (H' : Hp), BoxAt H' b l → Same H H' → H b = none → H l = none → Q (.ref b) H'
theorem sc_begun : FnScope ["_law_script", "_law_stirred", "_law_cell"] ["_law_script"] (defScope s_begun) := ⟨rfl, rfl, rfl, by decide +kernel, rfl, by decide +kernel, by decide +kernel⟩
theorem ok_begun {f : Addr} {fd : FuncData} (T : Txt mg) (F : Fun K "_law_begun" "_law_begun" s_begun f fd) : FnOk P w K mg base CX0 1 f fd ["_law_script"] (spBegun K) := by
  refine F.ok sc_begun (fun vs H Q E h => ?_) (fun cdv A outer s H vs Q E hr h => ?_)
  · obtain ⟨a, ns, rfl, _⟩ := h
    rfl
  · obtain ⟨a, ns, rfl, hS, hl, k⟩ := h
    have nd := sc_begun.nd
    refine ⟨_, pss_cons (ps_set (i := 1) nd rfl (.inl rfl) pe_int) (pss_cons (ps_for PassesOwn.never rfl (pi_list (pv 0)) (pg_name (i := 2) nd rfl (.inl rfl))
        (pss_one (ps_set (i := 1) nd rfl (.inl rfl) (pe_op op_modN (pe_op op_add (pe_op op_add (pe_op op_mul (pv 1) pe_int) (pe_op op_mul (pv 2) pe_int)) pe_int) pe_int))))
      (pss_one (ps_ret (pe_lst (pa_cons (pe_callTy call_list_of (by rfl) T.list (by decide +kernel) (pa_cons (pv 0) pa_nil))
        (pa_cons (pe_op op_mul (pv 1) (pe_callTy call_int1 (by rfl) T.int (by decide +kernel) (pa_cons (pe_cmpR op_gt (pe_callB call_len_seq (by rfl) T.len PySem.boot_len (pa_cons (pv 0) pa_nil)) pe_int (nomark _)) pa_nil))) pa_nil)))))), ?_⟩
    refine ⟨_, rfl, a, rfl, ⟨_, hS⟩, for_list (xs := ns.map V.int) (fun _ σ H1 => H1 = H ∧ ∃ st c, σ = [some (.ref a), some (.int st), c]) ⟨rfl, 0, _, rfl⟩ (fun i σ H1 _ p => by rw [p.1]; exact hS) ?_ ?_⟩
    · rintro i x σ H1 hx ⟨rfl, st, c, rfl⟩
      obtain ⟨n, rfl⟩ : ∃ n, x = V.int n := by
        rw [List.getElem?_map] at hx
        cases e : ns[i]? with
        | none => rw [e] at hx; cases hx
        | some n => rw [e] at hx; cases hx; exact ⟨n, rfl⟩
      exact ⟨_, rfl, st, 48271, rfl, rfl, .inr (by decide), _, rfl, n, 69621, rfl, rfl, .inr (by decide), _, _, rfl, rfl, _, 11, rfl, rfl, _, 2147483647, rfl, rfl, nz (by decide), rfl, _, _, rfl⟩
    · rintro σ H1 ⟨rfl, st, c, rfl⟩
      refine ⟨_, rfl, a, _, rfl, .inl hS, fun l nl => ?_⟩
      have hS2 : SqL K (upd H1 l (.lst (ns.map V.int))) a (ns.map V.int) := by
        rcases hS with (z | ⟨o, z⟩) | z
        · exact .inl (.inl (by rw [upd_ne (ne_of_none z nl)]; exact z))
        · exact .inl (.inr ⟨o, by rw [upd_ne (ne_of_none z nl)]; exact z⟩)
        · exact .inr z
      refine ⟨_, rfl, _, rfl, a, _, rfl, .inl hS2, _, 2, rfl, rfl, .inr ⟨_, rfl, st, _, rfl, rfl, .inr (by split <;> decide), (by show 2 ≤ sizeLine; decide), fun b nb => ?_⟩⟩
      have nb1 : H1 b = none := by
        by_cases e : b = l
        · rw [e, upd_same] at nb; cases nb
        · rw [upd_ne e] at nb; exact nb
      have nlb : l ≠ b := fun z => by rw [← z, upd_same] at nb; cases nb
      refine k b l _ ⟨ns, _, upd_same, by rw [upd_ne nlb, upd_same], hl⟩ (fun c o e => ?_) nb1 nl
      rw [upd_ne (ne_of_none e nb1), upd_ne (ne_of_none e nl)]
      exact e
theorem ty_list {H : Hp} {a : Addr} {xs : List V} (h : SqL K H a xs) : TyX K H (.ref a) (.type "list") := by
  rcases h with (z | ⟨o, z⟩) | ⟨o, its, n, z, c, _⟩
  · exact .base (.lst z)
  · exact .base (.frz z)
  · exact .kList z c
theorem ty_tup {H : Hp} {a : Addr} {xs : List V} (h : SqT K H a xs) : TyX K H (.ref a) (.type "tuple") := by
  rcases h with (z | ⟨o, z⟩) | ⟨o, its, n, z, c, _⟩
  · exact .base (.tup z)
  · exact .fTuple z
  · exact .kTuple z c
end
end TG
namespace Gx
open PySem PySem.Spec PyProof.Rows L2 GenW
section
variable {J : It} {n : Nat} {G : Hp → Prop} {Y : Nat → Hp → V → Hp → Prop}
/-- all over a walk whose i-th element is f i -/
theorem all_by (w : Walk J n G Y) {te : TE} {Q : VK} {H2 : Hp} (f : Nat → Bool) (Pv : Nat → Hp → Prop) (h0 : Pv 0 H2) (hG : ∀ i H, i ≤ n → Pv i H → G H)
    (hs : ∀ i v H H', i < n → Pv i H → Y i H v H' → ∀ Z : VK, (∀ H3, Pv (i + 1) H3 → Z (.bl (f i)) H3) → te [some v] H' Z)
    (hT : ∀ H, Pv n H → (∀ i, i < n → f i = true) → Q (.bl true) H) (hF : ∀ i H, i < n → f i = false → Pv (i + 1) H → Q (.bl false) H) :
    ∃ W : WT, (∃ m, W m [] H2) ∧ ∀ m ys H, W m ys H → (J.stop ys.length H ∧ (fun (_ : List V) H => Q (.bl true) H) ys H) ∨
      (J.go ys.length H ∧ ∀ v H', J.yld ys.length H v H' → te [some v] H' (NyAll (fun b H => Q (.bl b) H) W m ys)) := by
  refine ⟨fun m ys H => m = n - ys.length ∧ ys.length ≤ n ∧ Pv ys.length H ∧ ∀ i, i < ys.length → f i = true, ⟨n, by simp, Nat.zero_le _, h0, fun i hi => absurd hi (Nat.not_lt_zero _)⟩, ?_⟩
  rintro m ys H ⟨rfl, hl, hp, ht⟩
  have q := hG _ H hl hp
  by_cases hlt : ys.length < n
  · refine .inr ⟨w.goes _ H hlt q, fun v H' y => hs _ v H H' hlt hp (w.yields _ H v H' hlt q y) _ fun H3 p3 => ⟨f ys.length, rfl, ?_⟩⟩
    cases hf : f ys.length with
    | true =>
      refine iteT ⟨n - (ys.length + 1), by omega, by rw [List.length_append, List.length_singleton], by rw [List.length_append, List.length_singleton]; exact hlt, by rw [List.length_append, List.length_singleton]; exact p3, fun i hi => ?_⟩
      rw [List.length_append, List.length_singleton] at hi
      by_cases e : i = ys.length
      · rw [e]; exact hf
      · exact ht i (by omega)
    | false => exact iteF (hF _ H3 hlt hf p3)
  · have e : ys.length = n := by omega
    exact .inl ⟨by rw [e]; exact w.stops H q, hT H (e ▸ hp) fun i hi => ht i (by omega)⟩
end
def Tabs (cs : List (Addr × Addr)) (H : Hp) : Prop := ∀ p ∈ cs, GxR.TabG H p.2
theorem tab_ext {P : Addr} {H H' : Hp} (t : GxR.TabG H P) (x : GxR.Tabbed P H H') : LamX.ExtN H H' := fun b o e n => by
  by_cases hb : b = P
  · obtain ⟨ps, h1, _⟩ := t
    rw [hb, h1] at e
    cases e
    exact absurd rfl (n ps)
  · rw [x.2 b hb]; exact e
theorem tabs_tab {cs : List (Addr × Addr)} {P : Addr} {H H' : Hp} (t : Tabs cs H) (x : GxR.Tabbed P H H') : Tabs cs H' := fun p hp => by
  by_cases hb : p.2 = P
  · rw [hb]; exact x.1
  · obtain ⟨ps, h1, h2⟩ := t p hp
    exact ⟨ps, by rw [x.2 _ hb]; exact h1, h2⟩
/-- all but tables stays, the tables are tables -/
structure Ex (cs : List (Addr × Addr)) (H H' : Hp) : Prop where
  ext : LamX.ExtN H H'
  tab : Tabs cs H'
  old : ∀ b, H' b = none → H b = none
  oth : ∀ b o, H b = some o → (∀ p ∈ cs, p.2 ≠ b) → H' b = some o
theorem Ex.refl {cs : List (Addr × Addr)} {H : Hp} (t : Tabs cs H) : Ex cs H H := ⟨LamX.ExtN.refl H, t, fun _ h => h, fun _ _ e _ => e⟩
theorem Ex.trans {cs : List (Addr × Addr)} {H H1 H2 : Hp} (a : Ex cs H H1) (b : Ex cs H1 H2) : Ex cs H H2 := ⟨a.ext.trans b.ext, b.tab, fun c h => a.old c (b.old c h), fun c o e m => b.oth c o (a.oth c o e m) m⟩
theorem Ex.tabbed {cs : List (Addr × Addr)} {q : Addr × Addr} {H H' : Hp} (t : Tabs cs H) (m : q ∈ cs) (x : GxR.Tabbed q.2 H H') : Ex cs H H' := ⟨tab_ext (t q m) x, tabs_tab t x, fun b h => by
  by_cases hb : b = q.2
  · obtain ⟨ps, h1, _⟩ := x.1
    rw [hb, h1] at h
    cases h
  · rw [x.2 b hb] at h; exact h, fun b o e n => by
  rw [x.2 b (fun z => n q m z.symm)]
  exact e⟩
theorem upd_none {H : Hp} {a b : Addr} {o : HO} (h : upd H a o b = none) : H b = none ∧ b ≠ a := by
  by_cases hb : b = a
  · rw [hb, upd_same] at h; cases h
  · rw [upd_ne hb] at h; exact ⟨h, hb⟩
theorem Ex.laid {cs : List (Addr × Addr)} {H : Hp} {a : Addr} {o : HO} (t : Tabs cs H) (n : H a = none) : Ex cs H (upd H a o) :=
  ⟨fun b u e _ => by rw [upd_ne (ne_of_none e n)]; exact e, fun p hp => by
    obtain ⟨ps, h1, h2⟩ := t p hp
    exact ⟨ps, by rw [upd_ne (ne_of_none h1 n)]; exact h1, h2⟩, fun b h => (upd_none h).1, fun b u e _ => by
    rw [upd_ne (ne_of_none e n)]
    exact e⟩
/-- a new object, written again -/
theorem ex_new {cs : List (Addr × Addr)} {H H' : Hp} {D : Addr} {o : HO} (t : Tabs cs H) (e : Ex cs H H') (n : H D = none) : Ex cs H (upd H' D o) :=
  ⟨fun b u h m => by rw [upd_ne (ne_of_none h n)]; exact e.ext b u h m, fun p hp => by
    obtain ⟨ps, h1, _⟩ := t p hp
    obtain ⟨ps', h3, h4⟩ := e.tab p hp
    exact ⟨ps', by rw [upd_ne (ne_of_none h1 n)]; exact h3, h4⟩, fun b h => e.old b (upd_none h).1, fun b u h m => by
    rw [upd_ne (ne_of_none h n)]
    exact e.oth b u h m⟩
theorem Ex.lst {cs : List (Addr × Addr)} {H H' : Hp} {a : Addr} {xs : List V} (e : Ex cs H H') (h : H a = some (.lst xs)) : H' a = some (.lst xs) := e.ext _ _ h fun ps q => by cases q
theorem Ex.tup {cs : List (Addr × Addr)} {H H' : Hp} {a : Addr} {xs : List V} (e : Ex cs H H') (h : H a = some (.tup xs)) : H' a = some (.tup xs) := e.ext _ _ h fun ps q => by cases q
theorem Ex.sqL {cs : List (Addr × Addr)} {K : PySem.W.Frag} {H H' : Hp} {a : Addr} {xs : List V} (e : Ex cs H H') (h : SqL K H a xs) : SqL K H' a xs := by
  rcases h with (z | ⟨o, z⟩) | z
  · exact .inl (.inl (e.ext _ _ z fun ps q => by cases q))
  · exact .inl (.inr ⟨o, e.ext _ _ z fun ps q => by cases q⟩)
  · exact .inr z
theorem Ex.sqT {cs : List (Addr × Addr)} {K : PySem.W.Frag} {H H' : Hp} {a : Addr} {xs : List V} (e : Ex cs H H') (h : SqT K H a xs) : SqT K H' a xs := by
  rcases h with (z | ⟨o, z⟩) | z
  · exact .inl (.inl (e.ext _ _ z fun ps q => by cases q))
  · exact .inl (.inr ⟨o, e.ext _ _ z fun ps q => by cases q⟩)
  · exact .inr z
/-- a def whose code object is known -/
theorem fun_okT {P : Program} {w : World} {K : PySem.W.Frag} {mg : Str → Option Value} {base : Heap} {x qual : Str} {st : Stmt} {f c : Addr} {fd : FuncData} {N ps : List Str} {k : Nat} {sp : Sp} (F : Fun K x qual st f fd) (hc : fd.code = .ref c) (S : FnScope N ps (defScope st)) (len : ∀ vs H Q E, sp vs H Q E → vs.length = ps.length)
    (hbody : ∀ (A : Around) (outer : List Env) (s : Shared) (H : Hp) (vs : List V) (Q : VK) (E : XK), Room k (A.deeper (envOfC qual (defScope st) s.heap.objs.size f (.ref c))) → sp vs H Q E →
      ∃ t, PSs (cxOf CX0 P w K mg base N qual (defScope st) f (.ref c) A outer s H E).nox (defBody st) t ∧ t { nx := fun _ H' => Q .non H', rt := Q } (start N vs) H) : FnOk P w K mg base CX0 (k + 1) f fd ps sp := by
  obtain ⟨oc, od, kV, doc, pm, an, cdv, ct, osl, rfl, lk, hcd⟩ := F.ex
  have e : cdv = .ref c := hc
  subst e
  refine fn_of lk hcd S len fun A outer s H vs Q E hr hsp => ?_
  obtain ⟨t, h, q⟩ := hbody A outer s H vs Q E hr hsp
  exact ⟨t, h.nox, q⟩
end Gx
namespace TG
open PySem L2 Gx
def SgOk (c : Nat) : Prop := 32 ≤ c ∧ c ≤ 126 ∧ c ≠ 37
structure CellOk (z : Str) : Prop where
  len : z.length ≤ 10
  sg : ∀ c ∈ z.cps.toList, SgOk c
structure RowOk (r : List Str) : Prop where
  pos : 1 ≤ r.length
  len : r.length ≤ 6
  cells : ∀ z ∈ r, CellOk z
abbrev sV (r : List Str) : List V := r.map V.str
theorem line10 {n : Nat} (h : n ≤ 1000) : n ≤ sizeLine := Nat.le_trans h (by decide)
theorem dT {c : Prop} [Decidable c] (h : c) : V.bl (decide c) = V.bl true := by rw [decide_eq_true h]
theorem dF {c : Prop} [Decidable c] (h : ¬ c) : V.bl (decide c) = V.bl false := by rw [decide_eq_false h]
theorem qT {c : Prop} [Decidable c] {Q : VK} {H : Hp} (h : c) (k : Q (.bl true) H) : Q (.bl (decide c)) H := by rw [decide_eq_true h]; exact k
theorem qN {c : Prop} [Decidable c] {Q : VK} {H : Hp} (h : ¬ c) (k : Q (.bl true) H) : Q (.bl (!decide c)) H := by rw [decide_eq_false h]; exact k
structure Consts (mg : Str → Option Value) : Prop where
  blank : ∃ t, mg "BLANK" = some (.int 32 t)
  tilde : ∃ t, mg "TILDE" = some (.int 126 t)
  percent : ∃ t, mg "PERCENT" = some (.int 37 t)
  rows : ∃ t, mg "MOST_ROWS" = some (.int 30 t)
  cells : ∃ t, mg "MOST_CELLS" = some (.int 6 t)
  signs : ∃ t, mg "MOST_SIGNS" = some (.int 10 t)
  gap : ∃ t, mg "MOST_GAP" = some (.int 4 t)
  least : ∃ t, mg "MOST_LEAST" = some (.int 12 t)
section
variable {P : Program} {w : World} {K : PySem.W.Frag} {mg : Str → Option Value} {base : Heap}
def spWhole : Sp := fun vs H Q _ => ∃ (i lo hi : Int), vs = [.int i, .int lo, .int hi] ∧ lo ≤ i ∧ i ≤ hi ∧ Q (.bl true) H
theorem sc_whole : FnScope ["value", "low", "high"] ["value", "low", "high"] (defScope s_is_whole) := ⟨rfl, rfl, rfl, by decide +kernel, rfl, by decide +kernel, by decide +kernel⟩
theorem ok_whole {f : Addr} {fd : FuncData} (T : Txt mg) (F : Fun K "is_whole" "is_whole" s_is_whole f fd) : FnOk P w K mg base CX0 1 f fd ["value", "low", "high"] spWhole := by
  refine F.ok sc_whole (fun vs H Q E h => ?_) (fun cdv A outer s H vs Q E hr h => ?_)
  · obtain ⟨i, lo, hi, rfl, _⟩ := h
    rfl
  · obtain ⟨i, lo, hi, rfl, h1, h2, k⟩ := h
    refine ⟨_, pss_one (ps_ret (pe_and (pe_callB call_isi (by rfl) T.isin (by decide +kernel) (pa_cons (pv 0) (pa_cons (pe_bltn (v := .ty "int") (by rfl) T.int (by decide +kernel) rfl) pa_nil)))
      (pe_and (pe_not (pe_callB call_isi (by rfl) T.isin (by decide +kernel) (pa_cons (pv 0) (pa_cons (pe_bltn (v := .ty "bool") (by rfl) T.bool (by decide +kernel) rfl) pa_nil)))) (pe_one (pe_chain op_le op_le (pv 1) (pv 0) (pv 2)))))), ?_⟩
    exact ⟨_, rfl, _, _, _, _, true, rfl, .ty _, .base (.int i), kit_ty (by decide +kernel), true, rfl, iteT ⟨_, rfl, _, _, _, _, false, rfl, .ty _, .base (.int i), kit_ty (by decide +kernel), false, rfl, true, rfl, iteT
      ⟨_, rfl, _, rfl, lo, i, rfl, rfl, true, dT h1, iteT ⟨_, rfl, i, hi, rfl, rfl, qT h2 k⟩⟩⟩⟩
def spSg : Sp := fun vs H Q _ => ∃ c : Nat, vs = [.str ⟨#[c]⟩] ∧ SgOk c ∧ Q (.bl true) H
theorem sc_sg : FnScope ["sign"] ["sign"] (defScope s_is_sign) := ⟨rfl, rfl, rfl, by decide +kernel, rfl, by decide +kernel, by decide +kernel⟩
theorem ok_sg {f : Addr} {fd : FuncData} (T : Txt mg) (N : Consts mg) (F : Fun K "is_sign" "is_sign" s_is_sign f fd) : FnOk P w K mg base CX0 1 f fd ["sign"] spSg := by
  refine F.ok sc_sg (fun vs H Q E h => ?_) (fun cdv A outer s H vs Q E hr h => ?_)
  · obtain ⟨c, rfl, _⟩ := h
    rfl
  · obtain ⟨c, rfl, ⟨h1, h2, h3⟩, k⟩ := h
    obtain ⟨t1, e1⟩ := N.blank
    obtain ⟨t2, e2⟩ := N.tilde
    obtain ⟨t3, e3⟩ := N.percent
    refine ⟨_, pss_one (ps_ret (pe_and (pe_chain op_le op_le (pe_glob (v := .int 32) rfl e1 ⟨_, rfl⟩) (pe_callB call_ord (by rfl) T.ord (by decide +kernel) (pa_cons (pv 0) pa_nil)) (pe_glob (v := .int 126) rfl e2 ⟨_, rfl⟩))
      (pe_one (pe_cmpR op_ne (pe_callB call_ord (by rfl) T.ord (by decide +kernel) (pa_cons (pv 0) pa_nil)) (pe_glob (v := .int 37) rfl e3 ⟨_, rfl⟩) (nomark _))))), ?_⟩
    refine ⟨_, rfl, _, rfl, rfl, 32, (c : Int), rfl, rfl, true, dT (show (32 : Int) ≤ c by omega), iteT ⟨(c : Int), 126, rfl, rfl, ?_⟩⟩
    have e4 : V.bl (decide ((c : Int) ≤ 126)) = V.bl true := dT (by omega)
    refine ⟨true, e4, iteT ⟨_, rfl, _, rfl, rfl, rfl, qN (fun z => ?_) k⟩⟩
    injection z with z
    exact h3 (Int.ofNat.inj z)
def spText (cs : List (Addr × Addr)) : Sp := fun vs H Q _ => ∃ (z : Str) (m : Int), vs = [.str z, .int m] ∧ Tabs cs H ∧ (z.length : Int) ≤ m ∧ z.length ≤ 1000 ∧ (∀ c ∈ z.cps.toList, SgOk c) ∧ ∀ H', Ex cs H H' → Q (.bl true) H'
theorem sc_text : FnScope ["value", "most"] ["value", "most"] (defScope s_is_text) := ⟨rfl, rfl, rfl, by decide +kernel, rfl, by decide +kernel, by decide +kernel⟩
theorem ok_text {f c Pt g : Addr} {fd fdg : FuncData} {cs : List (Addr × Addr)} (T : Txt mg) (F : Fun K "is_text_of_signs" "is_text_of_signs" s_is_text f fd) (hc : fd.code = .ref c) (TB : GxR.TabB base mg c Pt) (hm : (c, Pt) ∈ cs)
    (G : FnOk P w K mg base CX0 1 g fdg ["sign"] spSg) (kp : PySem.W.keepIn K (.ref g) = true) (bd : Binds K fdg ["sign"] []) (mgg : mg "is_sign" = some (.ref g)) : FnOk P w K mg base CX0 5 f fd ["value", "most"] (spText cs) := by
  refine fun_okT F hc sc_text (fun vs H Q E h => ?_) (fun A outer s H vs Q E hr h => ?_)
  · obtain ⟨z, m, rfl, _⟩ := h
    rfl
  · obtain ⟨z, m, rfl, hT, h1, h2, h3, k⟩ := h
    refine ⟨_, pss_one (ps_ret (pe_and (pe_callB call_isi (by rfl) T.isin (by decide +kernel) (pa_cons (pv 0) (pa_cons (pe_bltn (v := .ty "str") (by rfl) T.str (by decide +kernel) rfl) pa_nil)))
      (pe_and (pe_cmpR op_le (pe_callB call_len_str (by rfl) T.len PySem.boot_len (pa_cons (pv 0) pa_nil)) (pv 1) (nomark _))
        (pe_one (pe_allG (k := 1) (P := Pt) hr (by rfl) T.all TB rfl ⟨rfl, rfl, by decide +kernel, by decide +kernel, rfl, rfl⟩ (pi_str (pv 0)) (fun A' code s4 H4 fp hr' => pe_call G hr' (by rfl) mgg kp bd .nil pass0 (pa_cons (pv 0) pa_nil)) (fun _ => rfl)))))), ?_⟩
    refine ⟨_, rfl, _, _, _, _, true, rfl, .ty _, .base (.str z), kit_ty (by decide +kernel), true, rfl, iteT ⟨_, rfl, z, rfl, line10 h2, _, rfl, _, _, rfl, rfl, true, dT h1, iteT ⟨_, rfl, z, rfl, hT _ hm, fun H2 hH2 => ?_⟩⟩⟩
    refine all_by (w := walk_str (z := z)) (fun _ => true) (fun _ H' => H' = H2) rfl (fun _ _ _ _ => trivial) (fun i v H3 H4 hi e y Z hZ => ?_) (fun H3 e _ => ?_) (fun i H3 _ e _ => by cases e)
    · obtain ⟨rfl, c, hc, rfl⟩ := y
      subst e
      refine ⟨_, rfl, c, rfl, h3 c ?_, hZ _ rfl⟩
      exact List.mem_of_getElem? (by rw [Array.getElem?_toList]; exact hc)
    · subst e
      exact k _ (Ex.tabbed hT hm hH2)
end
end TG
namespace TG
open PySem L2 Gx
/-- a page: its rows' tuples at as -/
structure PageAt (K : PySem.W.Frag) (H : Hp) (a : Addr) (as : List Addr) (rows : List (List Str)) : Prop where
  lst : SqL K H a (as.map V.ref)
  len : as.length = rows.length
  row : ∀ (i : Nat) (p : Addr) (r : List Str), as[i]? = some p → rows[i]? = some r → SqT K H p (sV r)
structure PgOk (rows : List (List Str)) : Prop where
  pos : 1 ≤ rows.length
  len : rows.length ≤ 30
  rows : ∀ r ∈ rows, RowOk r
theorem PageAt.ex {K : PySem.W.Frag} {cs : List (Addr × Addr)} {H H' : Hp} {a : Addr} {as : List Addr} {rows : List (List Str)} (p : PageAt K H a as rows) (e : Ex cs H H') : PageAt K H' a as rows :=
  ⟨e.sqL p.lst, p.len, fun i q r h1 h2 => e.sqT (p.row i q r h1 h2)⟩
theorem get_map {α β : Type} {f : α → β} {xs : List α} {i : Nat} {y : β} (h : (xs.map f)[i]? = some y) : ∃ x, xs[i]? = some x ∧ y = f x := by
  rw [List.getElem?_map] at h
  cases e : xs[i]? with
  | none => rw [e] at h; cases h
  | some x => rw [e] at h; cases h; exact ⟨x, rfl, rfl⟩
theorem getP {α : Type} {xs : List α} {i : Nat} (h : i < xs.length) : ∃ x, xs[i]? = some x := ⟨xs[i], List.getElem?_eq_getElem h⟩
section
variable {P : Program} {w : World} {K : PySem.W.Frag} {mg : Str → Option Value} {base : Heap} {cs : List (Addr × Addr)}
def spRow (K : PySem.W.Frag) (cs : List (Addr × Addr)) : Sp := fun vs H Q _ => ∃ (a : Addr) (r : List Str), vs = [.ref a] ∧ Tabs cs H ∧ SqT K H a (sV r) ∧ RowOk r ∧ ∀ H', Ex cs H H' → Q (.bl true) H'
theorem sc_row : FnScope ["value"] ["value"] (defScope s_is_row) := ⟨rfl, rfl, rfl, by decide +kernel, rfl, by decide +kernel, by decide +kernel⟩
theorem ok_isrow {f c Pt g : Addr} {fd fdg : FuncData} (T : Txt mg) (N : Consts mg) (F : Fun K "is_row" "is_row" s_is_row f fd) (hc : fd.code = .ref c) (TB : GxR.TabB base mg c Pt) (hm : (c, Pt) ∈ cs)
    (G : FnOk P w K mg base CX0 5 g fdg ["value", "most"] (spText cs)) (kp : PySem.W.keepIn K (.ref g) = true) (bd : Binds K fdg ["value", "most"] []) (mgg : mg "is_text_of_signs" = some (.ref g)) : FnOk P w K mg base CX0 9 f fd ["value"] (spRow K cs) := by
  refine fun_okT F hc sc_row (fun vs H Q E h => ?_) (fun A outer s H vs Q E hr h => ?_)
  · obtain ⟨a, r, rfl, _⟩ := h
    rfl
  · obtain ⟨a, r, rfl, hT, hS, ⟨p1, p2, p3⟩, k⟩ := h
    obtain ⟨t1, e1⟩ := N.cells
    obtain ⟨t2, e2⟩ := N.signs
    refine ⟨_, pss_cons (ps_if (PW.pt (pw_or (pt_not (pt_val (pe_callB call_isi (by rfl) T.isin (by decide +kernel) (pa_cons (pv 0) (pa_cons (pe_bltn (v := .ty "tuple") (by rfl) T.tuple (by decide +kernel) rfl) pa_nil)))))
        (pw_or1 (pt_not (pt_chain op_le op_le pe_int (pe_callB call_len_seq (by rfl) T.len PySem.boot_len (pa_cons (pv 0) pa_nil)) (pe_glob (v := .int 6) rfl e1 ⟨_, rfl⟩)))))) (pss_one (ps_ret pe_bl)) pss_nil)
      (pss_one (ps_ret (pe_allG (k := 5) (P := Pt) hr (by rfl) T.all TB rfl ⟨rfl, rfl, by decide +kernel, by decide +kernel, rfl, rfl⟩ (pi_tup (pv 0))
        (fun A' code s4 H4 fp hr' => pe_call G hr' (by rfl) mgg kp bd .nil pass0 (pa_cons (pv 0) (pa_cons (pe_glob (v := .int 10) rfl e2 ⟨_, rfl⟩) pa_nil))) (fun _ => rfl)))), ?_⟩
    have hl : (sV r).length = r.length := List.length_map ..
    refine ⟨_, rfl, _, _, _, _, true, rfl, .ty _, ty_tup hS, kit_ty (by decide +kernel), true, rfl, iteF ⟨_, rfl, a, _, rfl, .inr hS, 1, _, rfl, rfl, true, dT (by omega), iteT ⟨_, 6, rfl, rfl, true, dT (by omega), iteF ?_⟩⟩⟩
    refine ⟨_, rfl, a, rfl, ⟨_, hS⟩, hT _ hm, fun H2 hH2 => ?_⟩
    have x2 := Ex.tabbed hT hm hH2
    refine all_by (w := walk_tup (a := a) (xs := sV r)) (fun _ => true) (fun _ H' => Ex cs H H') x2 (fun i H' _ x => x.sqT hS) (fun i v H3 H4 hi x y Z hZ => ?_) (fun H3 x _ => k _ x) (fun i H3 _ e _ => by cases e)
    obtain ⟨rfl, hv⟩ := y
    obtain ⟨z, hz, rfl⟩ := get_map hv
    obtain ⟨c1, c2⟩ := p3 z (List.mem_of_getElem? hz)
    exact ⟨_, rfl, z, 10, rfl, x.tab, by omega, by omega, c2, fun H5 x5 => hZ _ (x.trans x5)⟩
def spCheck (K : PySem.W.Frag) (cs : List (Addr × Addr)) : Sp := fun vs H Q _ => ∃ (a : Addr) (as : List Addr) (rows : List (List Str)), vs = [.ref a] ∧ Tabs cs H ∧ PageAt K H a as rows ∧ PgOk rows ∧ ∀ H', Ex cs H H' → Q .non H'
theorem sc_misfit : FnScope ["rows", "number", "row"] ["rows"] (defScope s_misfit) := ⟨rfl, rfl, rfl, by decide +kernel, rfl, by decide +kernel, by decide +kernel⟩
theorem ok_misfit {f g : Addr} {fd fdg : FuncData} (T : Txt mg) (N : Consts mg) (F : Fun K "first_misfit" "first_misfit" s_misfit f fd)
    (G : FnOk P w K mg base CX0 9 g fdg ["value"] (spRow K cs)) (kp : PySem.W.keepIn K (.ref g) = true) (bd : Binds K fdg ["value"] []) (mgg : mg "is_row" = some (.ref g)) : FnOk P w K mg base CX0 10 f fd ["rows"] (spCheck K cs) := by
  refine F.ok sc_misfit (fun vs H Q E h => ?_) (fun cdv A outer s H vs Q E hr h => ?_)
  · obtain ⟨a, as, rows, rfl, _⟩ := h
    rfl
  · obtain ⟨a, as, rows, rfl, hT, hP, hO, k⟩ := h
    have nd := sc_misfit.nd
    obtain ⟨t1, e1⟩ := N.rows
    refine ⟨_, pss_cons (ps_for PassesOwn.never rfl (pi_enum (by rfl) T.enum (pa_cons (pv 0) pa_nil)) (pg_tup rfl (pgs_cons (pg_name (i := 1) nd rfl (.inl rfl)) (pgs_cons (pg_name (i := 2) nd rfl (.inl rfl)) pgs_nil)))
        (pss_one (ps_if (PW.pt (pw_or (pt_cmpR op_eq (pv 1) (pe_glob (v := .int 30) rfl e1 ⟨_, rfl⟩) (nomark _)) (pw_or1 (pt_not (pt_val (pe_call G hr (by rfl) mgg kp bd .nil pass0 (pa_cons (pv 2) pa_nil))))))) (pss_one ps_never) pss_nil)))
      (pss_one (ps_ret pe_non)), ?_⟩
    have hl : (as.map V.ref).length = rows.length := by rw [List.length_map]; exact hP.len
    have := hO.pos
    have := hO.len
    refine ⟨_, rfl, a, _, rfl, hP.lst, for_it (walk_enum (xs := as.map V.ref)) (fun _ σ H' => Ex cs H H' ∧ σ[0]? = some (some (.ref a)) ∧ σ.length = 3) ⟨Ex.refl hT, rfl, rfl⟩ (fun i σ H' _ x => x.1.sqL hP.lst) ?_ ?_⟩
    · rintro i x σ H3 H4 hi ⟨x3, s0, sl⟩ ⟨Tp, v, u, rfl, hn, rfl, hv, hu⟩
      cases hv
      obtain ⟨p, hp, rfl⟩ := get_map hu
      have hi2 : i < rows.length := by omega
      obtain ⟨r, hr2⟩ := getP hi2
      have xl := Ex.laid (o := .tup [.int (i : Nat), .ref p]) x3.tab hn
      refine ⟨Tp, _, rfl, .inl (.inl upd_same), rfl, _, _, rfl, _, _, rfl, rfl, ?_⟩
      have g1 : ((σ.set 1 (some (V.int (i : Nat)))).set 2 (some (V.ref p)))[1]? = some (some (V.int (i : Nat))) := by
        rw [List.getElem?_set_ne (by decide)]
        exact List.getElem?_set_self (by omega)
      have g2 : ((σ.set 1 (some (V.int (i : Nat)))).set 2 (some (V.ref p)))[2]? = some (some (V.ref p)) := List.getElem?_set_self (by rw [List.length_set]; omega)
      refine ⟨_, g1, rfl, false, dF (fun z => by injection z with z; omega), iteF ⟨_, g2, p, r, rfl, xl.tab, (x3.trans xl).sqT (hP.row i p r hp hr2), hO.rows r (List.mem_of_getElem? hr2), fun H5 x5 => ⟨true, rfl, iteF ⟨(x3.trans xl).trans x5, ?_, ?_⟩⟩⟩⟩
      · rw [List.getElem?_set_ne (by decide), List.getElem?_set_ne (by decide)]; exact s0
      · rw [List.length_set, List.length_set]; exact sl
    · rintro σ H' ⟨x, _⟩
      exact k H' x
theorem sc_check : FnScope ["page", "number"] ["page"] (defScope s_check_page) := ⟨rfl, rfl, rfl, by decide +kernel, rfl, by decide +kernel, by decide +kernel⟩
theorem ok_check {f g : Addr} {fd fdg : FuncData} (T : Txt mg) (F : Fun K "check_page" "check_page" s_check_page f fd)
    (G : FnOk P w K mg base CX0 10 g fdg ["rows"] (spCheck K cs)) (kp : PySem.W.keepIn K (.ref g) = true) (bd : Binds K fdg ["rows"] []) (mgg : mg "first_misfit" = some (.ref g)) : FnOk P w K mg base CX0 11 f fd ["page"] (spCheck K cs) := by
  refine F.ok sc_check (fun vs H Q E h => ?_) (fun cdv A outer s H vs Q E hr h => ?_)
  · obtain ⟨a, as, rows, rfl, _⟩ := h
    rfl
  · obtain ⟨a, as, rows, rfl, hT, hP, hO, k⟩ := h
    have nd := sc_check.nd
    refine ⟨_, pss_cons (ps_if (PW.pt (pw_or (pt_not (pt_val (pe_callB call_isi (by rfl) T.isin (by decide +kernel) (pa_cons (pv 0) (pa_cons (pe_bltn (v := .ty "list") (by rfl) T.list (by decide +kernel) rfl) pa_nil)))))
        (pw_or1 (pt_cmpR op_eq (pe_callB call_len_seq (by rfl) T.len PySem.boot_len (pa_cons (pv 0) pa_nil)) pe_int (nomark _))))) (pss_one ps_never) pss_nil)
      (pss_cons (ps_set (i := 1) nd rfl (.inl rfl) (pe_call G hr (by rfl) mgg kp bd .nil pass0 (pa_cons (pv 0) pa_nil)))
      (pss_one (ps_if (pt_cmpR op_notN (pv 1) pe_non (nomark _)) (pss_one ps_never) pss_nil))), ?_⟩
    have hl : (as.map V.ref).length = rows.length := by rw [List.length_map]; exact hP.len
    have := hO.pos
    have := hO.len
    refine ⟨_, rfl, _, _, _, _, true, rfl, .ty _, ty_list hP.lst, kit_ty (by decide +kernel), true, rfl, iteF ⟨_, rfl, a, _, rfl, .inl hP.lst, rfl, false, dF (fun z => by injection z with z; omega), iteF ?_⟩⟩
    exact ⟨_, rfl, a, as, rows, rfl, hT, hP, hO, fun H' x => ⟨_, rfl, rfl, false, rfl, iteF (k H' x)⟩⟩
structure StyleAt (K : PySem.W.Frag) (H : Hp) (a : Addr) (gap least : Int) : Prop where
  tup : SqT K H a [.int gap, .int least]
  g0 : 0 ≤ gap
  g1 : gap ≤ 4
  l0 : 0 ≤ least
  l1 : least ≤ 12
def spStyle (K : PySem.W.Frag) : Sp := fun vs H Q _ => ∃ (a : Addr) (gap least : Int), vs = [.ref a] ∧ StyleAt K H a gap least ∧ Q .non H
theorem sc_style : FnScope ["style", "gap", "least"] ["style"] (defScope s_check_style) := ⟨rfl, rfl, rfl, by decide +kernel, rfl, by decide +kernel, by decide +kernel⟩
theorem ok_cstyle {f g : Addr} {fd fdg : FuncData} (T : Txt mg) (N : Consts mg) (F : Fun K "check_style" "check_style" s_check_style f fd)
    (G : FnOk P w K mg base CX0 1 g fdg ["value", "low", "high"] spWhole) (kp : PySem.W.keepIn K (.ref g) = true) (bd : Binds K fdg ["value", "low", "high"] []) (mgg : mg "is_whole" = some (.ref g)) : FnOk P w K mg base CX0 2 f fd ["style"] (spStyle K) := by
  refine F.ok sc_style (fun vs H Q E h => ?_) (fun cdv A outer s H vs Q E hr h => ?_)
  · obtain ⟨a, gap, least, rfl, _⟩ := h
    rfl
  · obtain ⟨a, gap, least, rfl, ⟨hS, g0, g1, l0, l1⟩, k⟩ := h
    have nd := sc_style.nd
    obtain ⟨t1, e1⟩ := N.gap
    obtain ⟨t2, e2⟩ := N.least
    refine ⟨_, pss_cons (ps_if (PW.pt (pw_or (pt_not (pt_val (pe_callB call_isi (by rfl) T.isin (by decide +kernel) (pa_cons (pv 0) (pa_cons (pe_bltn (v := .ty "tuple") (by rfl) T.tuple (by decide +kernel) rfl) pa_nil)))))
        (pw_or1 (pt_cmpR op_ne (pe_callB call_len_seq (by rfl) T.len PySem.boot_len (pa_cons (pv 0) pa_nil)) pe_int (nomark _))))) (pss_one ps_never) pss_nil)
      (pss_cons (ps_asg (pv 0) (pg_tup rfl (pgs_cons (pg_name (i := 1) nd rfl (.inl rfl)) (pgs_cons (pg_name (i := 2) nd rfl (.inl rfl)) pgs_nil))))
      (pss_one (ps_if (PW.pt (pw_or (pt_not (pt_val (pe_call G hr (by rfl) mgg kp bd .nil pass0 (pa_cons (pv 1) (pa_cons pe_int (pa_cons (pe_glob (v := .int 4) rfl e1 ⟨_, rfl⟩) pa_nil))))))
        (pw_or1 (pt_not (pt_val (pe_call G hr (by rfl) mgg kp bd .nil pass0 (pa_cons (pv 2) (pa_cons pe_int (pa_cons (pe_glob (v := .int 12) rfl e2 ⟨_, rfl⟩) pa_nil))))))))) (pss_one ps_never) pss_nil))), ?_⟩
    refine ⟨_, rfl, _, _, _, _, true, rfl, .ty _, ty_tup hS, kit_ty (by decide +kernel), true, rfl, iteF ⟨_, rfl, a, _, rfl, .inr hS, rfl, false, rfl, iteF ?_⟩⟩
    exact ⟨_, rfl, a, _, rfl, hS, rfl, _, _, rfl, _, _, rfl, rfl, _, rfl, gap, 0, 4, rfl, g0, g1, true, rfl, iteF ⟨_, rfl, least, 0, 12, rfl, l0, l1, true, rfl, iteF k⟩⟩
end
end TG
namespace TG
open PySem L2 Gx
abbrev cl (z : Str) : List Nat := z.cps.toList
def restL (l : List Nat) : List Nat := if l.head? = some 45 then l.tail else l
def figB (z : Str) : Bool := decide (restL (cl z) ≠ []) && (restL (cl z)).all fun c => decide (48 ≤ c ∧ c ≤ 57)
section
variable {P : Program} {w : World} {K : PySem.W.Frag} {mg : Str → Option Value} {base : Heap} {cs : List (Addr × Addr)}
end
end TG
namespace TG
open PySem L2 Gx
def fillB (zs : List Str) : List Str := zs.filter fun z => decide (cl z ≠ [])
def rightB (zs : List Str) : Bool := decide (fillB zs ≠ []) && (fillB zs).all figB
section
variable {P : Program} {w : World} {K : PySem.W.Frag} {mg : Str → Option Value} {base : Heap} {cs : List (Addr × Addr)}
end
end TG
namespace TG
open PySem L2 Gx
def clB (rows : List (List Str)) (c i : Nat) : Bool := match rows[i]? with
  | some r => decide (c + 1 < r.length)
  | none => false
def hiB (rows : List (List Str)) (c i : Nat) : Nat := i + ((rows.drop i).takeWhile fun r => decide (c + 1 < r.length)).length
/-- pairs of numbers at ts -/
structure PairsAt (H : Hp) (ts : List Addr) (ps : List (Nat × Nat)) : Prop where
  len : ts.length = ps.length
  at_ : ∀ (i : Nat) (t : Addr) (p : Nat × Nat), ts[i]? = some t → ps[i]? = some p → H t = some (.tup [.int (p.1 : Nat), .int (p.2 : Nat)])
theorem PairsAt.keep {H H' : Hp} {ts : List Addr} {ps : List (Nat × Nat)} (h : PairsAt H ts ps) (k : ∀ b xs, H b = some (.tup xs) → H' b = some (.tup xs)) : PairsAt H' ts ps := ⟨h.len, fun i t p h1 h2 => k _ _ (h.at_ i t p h1 h2)⟩
section
variable {P : Program} {w : World} {K : PySem.W.Frag} {mg : Str → Option Value} {base : Heap} {cs : List (Addr × Addr)}
end
end TG
namespace TG
open PySem L2 Gx
abbrev nilS : Str := ⟨#[]⟩
def cellsB (rows : List (List Str)) (c b e : Nat) : List Str := ((rows.drop b).take (e - b)).map fun r => r.getD c nilS
def longB : List Str → Nat
  | [] => 0
  | z :: zs => max z.length (longB zs)
def widthB (zs : List Str) (gap least : Int) : Int := if least > (longB zs : Int) + gap then least else (longB zs : Int) + gap
def holdB (zs : List Str) (b : Nat) (gap least : Int) : List Int := if least < (longB zs : Int) + gap then ((List.range zs.length).filter fun i => decide ((zs.getD i nilS).length = longB zs)).map fun i => ((b + i : Nat) : Int) else []
section
variable {P : Program} {w : World} {K : PySem.W.Frag} {mg : Str → Option Value} {base : Heap} {cs : List (Addr × Addr)}
/-- the told tuple at t, its holders at h -/
def DescAt (H : Hp) (t h : Addr) (c b e : Nat) (zs : List Str) (gap least : Int) : Prop :=
  H t = some (.tup [.int (c : Nat), .int (b : Nat), .int (e : Nat), .int (widthB zs gap least), .bl (rightB zs), .ref h]) ∧ H h = some (.lst ((holdB zs b gap least).map V.int))
end
end TG
namespace TG
open PySem L2 Gx
/-- the told tuples at ts, their holders at hs -/
structure DescsAt (H : Hp) (ts hs : List Addr) (es : List (Nat × Nat × Nat)) (rows : List (List Str)) (gap least : Int) : Prop where
  len : ts.length = es.length
  len2 : hs.length = es.length
  at_ : ∀ (i : Nat) (t h : Addr) (q : Nat × Nat × Nat), ts[i]? = some t → hs[i]? = some h → es[i]? = some q → DescAt H t h q.1 q.2.1 q.2.2 (cellsB rows q.1 q.2.1 q.2.2) gap least
theorem DescsAt.keep {H H' : Hp} {ts hs : List Addr} {es : List (Nat × Nat × Nat)} {rows : List (List Str)} {gap least : Int} (x : DescsAt H ts hs es rows gap least) (k : ∀ b o, H b = some o → (b ∈ ts ∨ b ∈ hs) → (∀ ps, o ≠ .tbl ps) → H' b = some o) : DescsAt H' ts hs es rows gap least :=
  ⟨x.len, x.len2, fun i t h q h1 h2 h3 => ⟨k _ _ (x.at_ i t h q h1 h2 h3).1 (.inl (List.mem_of_getElem? h1)) (fun ps z => by cases z), k _ _ (x.at_ i t h q h1 h2 h3).2 (.inr (List.mem_of_getElem? h2)) (fun ps z => by cases z)⟩⟩
theorem StyleAt.ex {K : PySem.W.Frag} {cs : List (Addr × Addr)} {H H' : Hp} {a : Addr} {gap least : Int} (p : StyleAt K H a gap least) (e : Ex cs H H') : StyleAt K H' a gap least := ⟨e.sqT p.tup, p.g0, p.g1, p.l0, p.l1⟩
section
variable {P : Program} {w : World} {K : PySem.W.Frag} {mg : Str → Option Value} {base : Heap} {cs : List (Addr × Addr)}
end
end TG
namespace TG
open PySem L2 Gx
theorem joinL_nil : ∀ l : List (List Nat), TL.joinL [] l = l.flatten
  | [] => rfl
  | [p] => by simp [TL.joinL]
  | p :: q :: r => by
    show p ++ ([] ++ TL.joinL [] (q :: r)) = _
    rw [joinL_nil (q :: r)]
    rfl
theorem cl_join (ys : List Str) : cl (Txt.join "" ys) = (ys.map cl).flatten := by
  have e : ("" : Str) = SX.S [] := by decide +kernel
  have e2 : ys = (ys.map cl).map SX.S := by
    rw [List.map_map]
    conv => lhs; rw [← List.map_id ys]
    exact List.map_congr_left fun y _ => (SX.S_tl y).symm
  rw [e]
  conv => lhs; rw [e2]
  rw [SX.join_S, joinL_nil]
instance (c : Nat) : Decidable (SgOk c) := inferInstanceAs (Decidable (32 ≤ c ∧ c ≤ 126 ∧ c ≠ 37))
theorem sg_of {z : Str} (h : (z.cps.toList.all fun c => decide (SgOk c)) = true) : ∀ c ∈ cl z, SgOk c := fun c hc => of_decide_eq_true (List.all_eq_true.mp h c hc)
end TG
namespace TG
open PySem L2 Gx
abbrev everyS : Str := " !\"#$&'()*+,-./0123456789:;<=>?@ABCDEFGHIJKLMNOPQRSTUVWXYZ[\\]^_`abcdefghijklmnopqrstuvwxyz{|}~"
theorem every_ok : ∀ c ∈ cl everyS, SgOk c := sg_of (by decide +kernel)
theorem every_len : (cl everyS).length = 94 := by decide +kernel
/-- one of a written list -/
theorem pick {α : Type} {xs : List α} {i : Int} (h0 : 0 ≤ i) (h1 : i < xs.length) : ∃ x, x ∈ xs ∧ atI xs i = some x := by
  obtain ⟨n, rfl⟩ := Int.eq_ofNat_of_zero_le h0
  have hn : n < xs.length := by have : ((n : Nat) : Int) < xs.length := h1; omega
  exact ⟨xs[n], List.getElem_mem hn, atI_nat (List.getElem?_eq_getElem hn)⟩
theorem len_cl (z : Str) : z.length = (cl z).length := by simp [Str.length, cl]
theorem box_new {H : Hp} {b l p : Addr} {o : HO} (x : BoxAt H b l) (n : H p = none) : BoxAt (upd H p o) b l := by
  obtain ⟨ns, st, h1, h2, h3⟩ := x
  exact ⟨ns, st, by rw [upd_ne (ne_of_none h1 n)]; exact h1, by rw [upd_ne (ne_of_none h2 n)]; exact h2, h3⟩
theorem new_ne {H : Hp} {b l p : Addr} (x : BoxAt H b l) (n : H p = none) : p ≠ b ∧ p ≠ l := by
  obtain ⟨ns, st, h1, h2, h3⟩ := x
  exact ⟨(ne_of_none h1 n).symm, (ne_of_none h2 n).symm⟩
theorem box_upd {H : Hp} {b l p : Addr} {o : HO} (x : BoxAt H b l) (h1 : p ≠ b) (h2 : p ≠ l) : BoxAt (upd H p o) b l := by
  obtain ⟨ns, st, g1, g2, g3⟩ := x
  exact ⟨ns, st, by rw [upd_ne h1.symm]; exact g1, by rw [upd_ne h2.symm]; exact g2, g3⟩
theorem kb_upd {H H' : Hp} {b l p : Addr} {o : HO} (x : KB b l H H') (n : H p = none) : KB b l H (upd H' p o) := fun c u e h1 h2 => by rw [upd_ne (ne_of_none e n)]; exact x c u e h1 h2
/-- a list of single signs at D -/
structure OnesAt (b l : Addr) (H : Hp) (D : Addr) (i : Nat) (H' : Hp) : Prop where
  box : BoxAt H' b l
  keep : KB b l H H'
  nD : H D = none
  db : D ≠ b
  dl : D ≠ l
  ones : ∃ cs : List Nat, cs.length = i ∧ (∀ c ∈ cs, SgOk c) ∧ H' D = some (.lst (sV (cs.map fun c => ⟨#[c]⟩)))
theorem OnesAt.start {b l : Addr} {H H1 : Hp} {D : Addr} (hB : BoxAt H1 b l) (x : KB b l H H1) (n : H1 D = none) (nb : BoxAt H b l) : OnesAt b l H D 0 (upd H1 D (.lst [])) := by
  obtain ⟨d1, d2⟩ := new_ne hB n
  have nD : H D = none := by
    cases e : H D with
    | none => rfl
    | some o => rw [x D o e d1 d2] at n; cases n
  exact ⟨box_new hB n, kb_upd x nD, nD, d1, d2, [], rfl, fun c h => by simp at h, upd_same⟩
theorem OnesAt.more {b l : Addr} {H H1 H2 : Hp} {D : Addr} {i c : Nat} (o : OnesAt b l H D i H1) (hc : SgOk c) (hB : BoxAt H2 b l) (x : KB b l H1 H2) :
    ∃ acc, H2 D = some (.lst acc) ∧ acc.length = i ∧ OnesAt b l H D (i + 1) (upd H2 D (.lst (acc ++ [.str ⟨#[c]⟩]))) := by
  obtain ⟨cs, h1, h2, h3⟩ := o.ones
  refine ⟨_, x D _ h3 o.db o.dl, by rw [List.length_map, List.length_map, h1], box_upd hB o.db o.dl, kb_upd (o.keep.trans x) o.nD, o.nD, o.db, o.dl, cs ++ [c], by rw [List.length_append, h1]; rfl, fun d hd => ?_, ?_⟩
  · rcases List.mem_append.mp hd with h | h
    · exact h2 d h
    · rw [List.mem_singleton.mp h]; exact hc
  · rw [upd_same]
    simp [sV]
theorem OnesAt.done {b l : Addr} {H H1 : Hp} {D : Addr} {i : Nat} (o : OnesAt b l H D i H1) : ∃ ys : List Str, H1 D = some (.lst (ys.map V.str)) ∧ ys.length = i ∧ (ys.map fun y => y.length).sum = i ∧ (i ≤ 10 → CellOk (Txt.join "" ys)) := by
  obtain ⟨cs, h1, h2, h3⟩ := o.ones
  refine ⟨_, h3, by rw [List.length_map, h1], ?_, fun hi => ?_⟩
  · rw [← h1]
    clear h1 h2 h3
    induction cs with
    | nil => rfl
    | cons c cs ih =>
      rw [List.map_cons, List.map_cons, List.sum_cons, ih, List.length_cons]
      show 1 + cs.length = cs.length + 1
      omega
  · have e : cl (Txt.join "" (cs.map fun c => (⟨#[c]⟩ : Str))) = cs := by
      rw [cl_join, List.map_map]
      clear h1 h2 h3
      induction cs with
      | nil => rfl
      | cons c cs ih =>
        rw [List.map_cons, List.flatten_cons, ih]
        rfl
    exact ⟨by rw [len_cl, e, h1]; exact hi, fun c hc => h2 c (by have hc : c ∈ cl _ := hc; rw [e] at hc; exact hc)⟩
section
variable {P : Program} {w : World} {K : PySem.W.Frag} {mg : Str → Option Value} {base : Heap} {cs : List (Addr × Addr)}
def spSign : Sp := fun vs H Q _ => ∃ (b l : Addr), vs = [.ref b] ∧ BoxAt H b l ∧ ∀ (c : Nat) (H' : Hp), SgOk c → BoxAt H' b l → KB b l H H' → Q (.str ⟨#[c]⟩) H'
theorem sc_sign : FnScope ["_law_box", "_law_every"] ["_law_box"] (defScope s_sign) := ⟨rfl, rfl, rfl, by decide +kernel, rfl, by decide +kernel, by decide +kernel⟩
theorem ok_sign {f g : Addr} {fd fdg : FuncData} (F : Fun K "_law_sign" "_law_sign" s_sign f fd)
    (G : FnOk P w K mg base CX0 1 g fdg ["_law_box", "_law_many"] spTake) (kp : PySem.W.keepIn K (.ref g) = true) (bd : Binds K fdg ["_law_box", "_law_many"] []) (mgg : mg "_law_take" = some (.ref g)) : FnOk P w K mg base CX0 2 f fd ["_law_box"] spSign := by
  refine F.ok sc_sign (fun vs H Q E h => ?_) (fun cdv A outer s H vs Q E hr h => ?_)
  · obtain ⟨b, l, rfl, _⟩ := h
    rfl
  · obtain ⟨b, l, rfl, hB, k⟩ := h
    have nd := sc_sign.nd
    refine ⟨_, pss_cons (ps_set (i := 1) nd rfl (.inl rfl) pe_str) (pss_one (ps_ret (pe_ix ix_str (pv 1) (pe_call G hr (by rfl) mgg kp bd .nil pass0 (pa_cons (pv 0) (pa_cons pe_int pa_nil))) (fun _ _ => rfl)))), ?_⟩
    refine ⟨_, rfl, _, rfl, b, l, 94, rfl, hB, by decide, by decide, fun r H1 r0 r1 hB1 x1 => ?_⟩
    obtain ⟨c, hc, e⟩ := pick (xs := cl everyS) r0 (by rw [every_len]; exact r1)
    exact ⟨everyS, r, c, rfl, rfl, line10 (by decide +kernel), e, k c H1 (every_ok c hc) hB1 x1⟩
end
end TG
namespace TG
open PySem L2 Gx
theorem new_old {b l p : Addr} {H H1 : Hp} (x : KB b l H H1) (hB : BoxAt H1 b l) (n : H1 p = none) : H p = none := by
  obtain ⟨d1, d2⟩ := new_ne hB n
  cases e : H p with
  | none => rfl
  | some o => rw [x p o e d1 d2] at n; cases n
/-- a list of cells at D -/
structure StrsAt (b l : Addr) (H : Hp) (D : Addr) (i : Nat) (H' : Hp) : Prop where
  box : BoxAt H' b l
  keep : KB b l H H'
  nD : H D = none
  db : D ≠ b
  dl : D ≠ l
  zsat : ∃ zs : List Str, zs.length = i ∧ (∀ z ∈ zs, CellOk z) ∧ H' D = some (.lst (sV zs))
theorem StrsAt.start {b l : Addr} {H H1 : Hp} {D : Addr} (hB : BoxAt H1 b l) (x : KB b l H H1) (n : H1 D = none) : StrsAt b l H D 0 (upd H1 D (.lst [])) := by
  obtain ⟨d1, d2⟩ := new_ne hB n
  have nD := new_old x hB n
  exact ⟨box_new hB n, kb_upd x nD, nD, d1, d2, [], rfl, fun c h => by simp at h, upd_same⟩
theorem StrsAt.more {b l : Addr} {H H1 H2 : Hp} {D : Addr} {i : Nat} {z : Str} (o : StrsAt b l H D i H1) (hc : CellOk z) (hB : BoxAt H2 b l) (x : KB b l H1 H2) :
    ∃ acc, H2 D = some (.lst acc) ∧ acc.length = i ∧ StrsAt b l H D (i + 1) (upd H2 D (.lst (acc ++ [.str z]))) := by
  obtain ⟨zs, h1, h2, h3⟩ := o.zsat
  refine ⟨_, x D _ h3 o.db o.dl, by rw [List.length_map, h1], box_upd hB o.db o.dl, kb_upd (o.keep.trans x) o.nD, o.nD, o.db, o.dl, zs ++ [z], by rw [List.length_append, h1]; rfl, fun d hd => ?_, ?_⟩
  · rcases List.mem_append.mp hd with h | h
    · exact h2 d h
    · rw [List.mem_singleton.mp h]; exact hc
  · rw [upd_same]
    simp [sV]
/-- a list of numbers at D, below m -/
structure IntsAt (b l : Addr) (H : Hp) (D : Addr) (i : Nat) (H' : Hp) : Prop where
  box : BoxAt H' b l
  keep : KB b l H H'
  nD : H D = none
  db : D ≠ b
  dl : D ≠ l
  isat : ∃ zs : List Int, zs.length = i ∧ H' D = some (.lst (zs.map V.int))
theorem IntsAt.start {b l : Addr} {H H1 : Hp} {D : Addr} (hB : BoxAt H1 b l) (x : KB b l H H1) (n : H1 D = none) : IntsAt b l H D 0 (upd H1 D (.lst [])) := by
  obtain ⟨d1, d2⟩ := new_ne hB n
  have nD := new_old x hB n
  exact ⟨box_new hB n, kb_upd x nD, nD, d1, d2, [], rfl, upd_same⟩
theorem IntsAt.more {b l : Addr} {H H1 H2 : Hp} {D : Addr} {i : Nat} {z : Int} (o : IntsAt b l H D i H1) (hB : BoxAt H2 b l) (x : KB b l H1 H2) :
    ∃ acc, H2 D = some (.lst acc) ∧ acc.length = i ∧ IntsAt b l H D (i + 1) (upd H2 D (.lst (acc ++ [.int z]))) := by
  obtain ⟨zs, h1, h3⟩ := o.isat
  refine ⟨_, x D _ h3 o.db o.dl, by rw [List.length_map, h1], box_upd hB o.db o.dl, kb_upd (o.keep.trans x) o.nD, o.nD, o.db, o.dl, zs ++ [z], by rw [List.length_append, h1]; rfl, ?_⟩
  rw [upd_same]
  simp
/-- rows' tuples -/
def RowsP (H : Hp) (as : List Addr) : Prop := ∀ p ∈ as, ∃ r, H p = some (.tup (sV r)) ∧ RowOk r
theorem RowsP.keep {H H' : Hp} {as : List Addr} (x : RowsP H as) (k : ∀ p xs, H p = some (.tup xs) → H' p = some (.tup xs)) : RowsP H' as := fun p hp => by
  obtain ⟨r, h1, h2⟩ := x p hp
  exact ⟨r, k _ _ h1, h2⟩
theorem RowsP.page {H : Hp} : ∀ {as : List Addr}, RowsP H as → ∃ rows : List (List Str), as.length = rows.length ∧ (∀ (i : Nat) (p : Addr) (r : List Str), as[i]? = some p → rows[i]? = some r → H p = some (.tup (sV r))) ∧ ∀ r ∈ rows, RowOk r
  | [], _ => ⟨[], rfl, fun i p r h => by simp at h, fun r h => by simp at h⟩
  | a :: as, x => by
    obtain ⟨rows, h1, h2, h3⟩ := RowsP.page (as := as) fun p hp => x p (List.mem_cons_of_mem _ hp)
    obtain ⟨r, g1, g2⟩ := x a List.mem_cons_self
    refine ⟨r :: rows, by rw [List.length_cons, List.length_cons, h1], fun i p q e1 e2 => ?_, fun q hq => ?_⟩
    · cases i with
      | zero => cases e1; cases e2; exact g1
      | succ i => exact h2 i p q (by simpa using e1) (by simpa using e2)
    · rcases List.mem_cons.mp hq with z | z
      · rw [z]; exact g2
      · exact h3 q z
section
variable {P : Program} {w : World} {K : PySem.W.Frag} {mg : Str → Option Value} {base : Heap} {cs : List (Addr × Addr)}
end
end TG
namespace TG
open PySem L2 Gx
theorem same_refl {H : Hp} : Same H H := fun _ _ h => h
theorem same_trans {H H1 H2 : Hp} (a : Same H H1) (b : Same H1 H2) : Same H H2 := fun c o h => b c o (a c o h)
theorem same_new {H : Hp} {p : Addr} {o : HO} (n : H p = none) : Same H (upd H p o) := fun c u h => by rw [upd_ne (ne_of_none h n)]; exact h
theorem same_upd {H H' : Hp} {p : Addr} {o : HO} (x : Same H H') (n : H p = none) : Same H (upd H' p o) := fun c u h => by rw [upd_ne (ne_of_none h n)]; exact x c u h
theorem same_sqL {K : PySem.W.Frag} {H H' : Hp} {a : Addr} {xs : List V} (e : Same H H') (h : SqL K H a xs) : SqL K H' a xs := by
  rcases h with (z | ⟨o, z⟩) | z
  · exact .inl (.inl (e _ _ z))
  · exact .inl (.inr ⟨o, e _ _ z⟩)
  · exact .inr z
theorem same_sqT {K : PySem.W.Frag} {H H' : Hp} {a : Addr} {xs : List V} (e : Same H H') (h : SqT K H a xs) : SqT K H' a xs := by
  rcases h with (z | ⟨o, z⟩) | z
  · exact .inl (.inl (e _ _ z))
  · exact .inl (.inr ⟨o, e _ _ z⟩)
  · exact .inr z
theorem PageAt.same {K : PySem.W.Frag} {H H' : Hp} {a : Addr} {as : List Addr} {rows : List (List Str)} (p : PageAt K H a as rows) (e : Same H H') : PageAt K H' a as rows :=
  ⟨same_sqL e p.lst, p.len, fun i q r h1 h2 => same_sqT e (p.row i q r h1 h2)⟩
theorem same_old {H H' : Hp} {p : Addr} (e : Same H H') (n : H' p = none) : H p = none := by
  cases q : H p with
  | none => rfl
  | some o => rw [e _ _ q] at n; cases n
theorem canAll_strs : ∀ {zs : List Str}, (∀ z ∈ zs, ∀ c ∈ cl z, SgOk c) → PyData.canLayAll0 (zs.map PyData.str) = true
  | [], _ => rfl
  | z :: zs, h => by
    rw [List.map_cons]
    simp only [PyData.canLayAll0, PyData.canLay0, Bool.and_eq_true]
    refine ⟨?_, canAll_strs fun y hy => h y (List.mem_cons_of_mem _ hy)⟩
    unfold PyData.strOk
    rw [← Array.all_toList, List.all_eq_true]
    intro c hc
    have := h z List.mem_cons_self c hc
    unfold SgOk at this
    exact decide_eq_true (by omega)
theorem depthAll_strs : ∀ zs : List Str, PyData.depthAll (zs.map PyData.str) = 0
  | [] => rfl
  | _ :: r => by simp [PyData.depthAll, PyData.depth, depthAll_strs r]
theorem dp_strs {K : PySem.W.Frag} {H : Hp} : ∀ zs : List Str, DpAll K H (sV zs) (zs.map PyData.str)
  | [] => .nil
  | z :: zs => .cons (.str z) (dp_strs zs)
section
variable {P : Program} {w : World} {K : PySem.W.Frag} {mg : Str → Option Value} {base : Heap} {cs : List (Addr × Addr)}
end
end TG
namespace TG
open PySem L2 Gx
def loB (rows : List (List Str)) (c : Nat) : Nat → Nat
  | 0 => 0
  | i + 1 => if clB rows c i = true then loB rows c i else i + 1
section
variable {P : Program} {w : World} {K : PySem.W.Frag} {mg : Str → Option Value} {base : Heap} {cs : List (Addr × Addr)}
end
end TG
namespace TG
open PySem L2 Gx
end TG
namespace TG
open PySem L2 Gx
def wB (rows : List (List Str)) (gap least : Int) (i c : Nat) : Int := widthB (cellsB rows c (loB rows c i) (hiB rows c i)) gap least
def rB (rows : List (List Str)) (i c : Nat) : Bool := rightB (cellsB rows c (loB rows c i) (hiB rows c i))
end TG
namespace TG
open PySem L2 Gx
section
variable {P : Program} {w : World} {K : PySem.W.Frag} {mg : Str → Option Value} {base : Heap} {cs : List (Addr × Addr)}
end
end TG
namespace TG
open PySem L2 Gx
/-- the list at l holds what is told of the first n closed cells of row i -/
def CellsAt (H : Hp) (rows : List (List Str)) (gap least : Int) (i n : Nat) (l : Addr) : Prop :=
  ∃ ts : List Addr, H l = some (.lst (ts.map V.ref)) ∧ ts.length = n ∧ ∀ (c : Nat) (t : Addr), ts[c]? = some t → H t = some (.tup [.int (wB rows gap least i c), .bl (rB rows i c)])
theorem CellsAt.ext {H H' : Hp} {rows : List (List Str)} {gap least : Int} {i n : Nat} {l : Addr} (x : CellsAt H rows gap least i n l) (e : LamX.ExtN H H') : CellsAt H' rows gap least i n l :=
  let ⟨ts, h1, h2, h3⟩ := x
  ⟨ts, e _ _ h1 (by intro ps z; cases z), h2, fun c t h => e _ _ (h3 c t h) (by intro ps z; cases z)⟩
theorem CellsAt.upd {H : Hp} {rows : List (List Str)} {gap least : Int} {i n : Nat} {l p : Addr} {xs : List V} {o : HO} (x : CellsAt H rows gap least i n l) (hp : H p = some (.lst xs)) (ne : l ≠ p) : CellsAt (upd H p o) rows gap least i n l :=
  let ⟨ts, h1, h2, h3⟩ := x
  ⟨ts, by rw [upd_ne ne]; exact h1, h2, fun c t h => by rw [upd_ne (ne_of (h3 c t h) hp (by intro z; cases z))]; exact h3 c t h⟩
section
variable {P : Program} {w : World} {K : PySem.W.Frag} {mg : Str → Option Value} {base : Heap} {cs : List (Addr × Addr)}
end
end TG
namespace TG
open PySem L2 Gx
/-- the list at r holds lists of numbers, f tells them -/
structure ToldAt (H : Hp) (r : Addr) (es : List Addr) (f : Nat → List Int) (n : Nat) : Prop where
  lst : H r = some (.lst (es.map V.ref))
  len : es.length = n
  nd : es.Nodup
  at_ : ∀ (i : Nat) (e : Addr), es[i]? = some e → H e = some (.lst ((f i).map V.int))
theorem ToldAt.ext {H H' : Hp} {r : Addr} {es : List Addr} {f : Nat → List Int} {n : Nat} (t : ToldAt H r es f n) (x : LamX.ExtN H H') : ToldAt H' r es f n :=
  ⟨x _ _ t.lst (by intro ps z; cases z), t.len, t.nd, fun i e h => x _ _ (t.at_ i e h) (by intro ps z; cases z)⟩
theorem same_ext {H H' : Hp} (x : Same H H') : LamX.ExtN H H' := fun b o e _ => x b o e
section
variable {P : Program} {w : World} {K : PySem.W.Frag} {mg : Str → Option Value} {base : Heap} {cs : List (Addr × Addr)}
end
end TG
namespace TG
open PySem L2 Gx
section
variable {P : Program} {w : World} {K : PySem.W.Frag} {mg : Str → Option Value} {base : Heap} {cs : List (Addr × Addr)}
end
end TG
namespace TG
open PySem L2 Gx
section
variable {P : Program} {w : World} {K : PySem.W.Frag} {mg : Str → Option Value} {base : Heap} {cs : List (Addr × Addr)}
end
end TG
namespace TG
open PySem L2 Gx
theorem ToldAt.go {H H' : Hp} {r : Addr} {es : List Addr} {f : Nat → List Int} {n : Nat} (t : ToldAt H r es f n) (x : Same H H') : ToldAt H' r es f n := t.ext (same_ext x)
section
variable {P : Program} {w : World} {K : PySem.W.Frag} {mg : Str → Option Value} {base : Heap} {cs : List (Addr × Addr)}
theorem StyleAt.same {H H' : Hp} {a : Addr} {gap least : Int} (p : StyleAt K H a gap least) (e : Same H H') : StyleAt K H' a gap least := ⟨same_sqT e p.tup, p.g0, p.g1, p.l0, p.l1⟩
end
end TG
namespace TG
open PySem L2 Gx
theorem ToldAt.congr {H : Hp} {r : Addr} {es : List Addr} {f g : Nat → List Int} {n : Nat} (t : ToldAt H r es f n) (e : ∀ i, i < n → f i = g i) : ToldAt H r es g n :=
  ⟨t.lst, t.len, t.nd, fun i u h => by rw [← e i (by rw [← t.len]; exact (List.getElem?_eq_some_iff.mp h).1)]; exact t.at_ i u h⟩
theorem ToldAt.put {H : Hp} {r : Addr} {es : List Addr} {f : Nat → List Int} {n i : Nat} {e : Addr} {xs : List Int} (t : ToldAt H r es f n) (he : es[i]? = some e) (ne : e ≠ r) : ToldAt (upd H e (.lst (xs.map V.int))) r es (fun k => if k = i then xs else f k) n := by
  refine ⟨by rw [upd_ne ne.symm]; exact t.lst, t.len, t.nd, fun k u h => ?_⟩
  by_cases q : k = i
  · subst q
    rw [he] at h
    cases h
    rw [upd_same, if_pos rfl]
  · rw [if_neg q, upd_ne (fun z => q (nd_ix t.nd h (by rw [z]; exact he)))]
    exact t.at_ k u h
section
variable {P : Program} {w : World} {K : PySem.W.Frag} {mg : Str → Option Value} {base : Heap} {cs : List (Addr × Addr)}
end
end TG
namespace TG
open PySem L2 Gx
def rowsD (rows : List (List Str)) : List PyData := rows.map fun r => .tuple (r.map .str)
theorem dp_rows {K : PySem.W.Frag} {H : Hp} : ∀ {as : List Addr} {rows : List (List Str)}, as.length = rows.length → (∀ (i : Nat) (q : Addr) (r : List Str), as[i]? = some q → rows[i]? = some r → SqT K H q (sV r)) → DpAll K H (as.map V.ref) (rowsD rows)
  | [], [], _, _ => .nil
  | [], _ :: _, h, _ => by simp at h
  | _ :: _, [], h, _ => by simp at h
  | a :: as, r :: rows, h, k => .cons (.tup (k 0 a r rfl rfl) (dp_strs r)) (dp_rows (by simpa using h) fun i q r' h1 h2 => k (i + 1) q r' (by simpa using h1) (by simpa using h2))
theorem canAll_rows : ∀ {rows : List (List Str)}, (∀ r ∈ rows, ∀ z ∈ r, CellOk z) → PyData.canLayAll0 (rowsD rows) = true
  | [], _ => rfl
  | r :: rows, h => by
    show PyData.canLayAll0 (.tuple (r.map .str) :: rowsD rows) = true
    simp only [PyData.canLayAll0, PyData.canLay0, Bool.and_eq_true]
    exact ⟨canAll_strs fun z hz => (h r List.mem_cons_self z hz).sg, canAll_rows fun r' hr => h r' (List.mem_cons_of_mem _ hr)⟩
theorem depthAll_rows : ∀ rows : List (List Str), PyData.depthAll (rowsD rows) ≤ 1
  | [] => Nat.zero_le _
  | r :: rows => by
    show PyData.depthAll (.tuple (r.map .str) :: rowsD rows) ≤ 1
    simp only [PyData.depthAll, PyData.depth, depthAll_strs]
    have := depthAll_rows rows
    omega
theorem can_rows {rows : List (List Str)} (h : PgOk rows) : PyData.canLay0 (.list (rowsD rows)) = true := by
  simp only [PyData.canLay0]
  exact canAll_rows fun r hr z hz => (h.rows r hr).cells z hz
theorem shaped_rows {rows : List (List Str)} (h : PgOk rows) : SeqAt.shaped (.list (rowsD rows)) = true := by
  have := depthAll_rows rows
  unfold SeqAt.shaped
  rw [can_rows h, Bool.true_and]
  exact decide_eq_true (by simp only [PyData.depth]; omega)
theorem box_ext {b l : Addr} {H H' : Hp} (B : BoxAt H b l) (x : LamX.ExtN H H') : BoxAt H' b l := let ⟨ns, st, h1, h2, h3⟩ := B; ⟨ns, st, x _ _ h1 (by intro ps z; cases z), x _ _ h2 (by intro ps z; cases z), h3⟩
/-- what stands in a turn of the law: the box, the tables, the page and its copy, the style -/
structure PageT (cs : List (Addr × Addr)) (b l p q h : Addr) (as : List Addr) (rows : List (List Str)) (gap least : Int) (H : Hp) : Prop where
  box : BoxAt H b l
  tab : Tabs cs H
  pg : H p = some (.lst (as.map V.ref))
  hd : H h = some (.lst (as.map V.ref))
  al : as.length = rows.length
  row : ∀ (i : Nat) (a : Addr) (z : List Str), as[i]? = some a → rows[i]? = some z → H a = some (.tup (sV z))
  sty : H q = some (.tup [.int gap, .int least])
  g0 : 0 ≤ gap
  g1 : gap ≤ 4
  l0 : 0 ≤ least
  l1 : least ≤ 12
  ok : PgOk rows
theorem PageT.ext {cs : List (Addr × Addr)} {b l p q h : Addr} {as : List Addr} {rows : List (List Str)} {gap least : Int} {H H' : Hp} (t : PageT cs b l p q h as rows gap least H) (x : LamX.ExtN H H') (y : Tabs cs H') : PageT cs b l p q h as rows gap least H' :=
  ⟨box_ext t.box x, y, x _ _ t.pg (by intro ps z; cases z), x _ _ t.hd (by intro ps z; cases z), t.al, fun i a z h1 h2 => x _ _ (t.row i a z h1 h2) (by intro ps z; cases z), x _ _ t.sty (by intro ps z; cases z), t.g0, t.g1, t.l0, t.l1, t.ok⟩
end TG
namespace Zm
open PySem PySem.Spec PyProof.Rows L2
section
variable {P : Program} {w : World} {A : Around} {E : Value → Shared → Prop} {s : Shared} {z TI TO i1 i2 l1 l2 : Addr}
end
end Zm
namespace Zm
open PySem PySem.Spec PyProof.Rows L2
abbrev k1 (h : Heap) (a : Addr) : Heap := h.push { cls := .type "tuple_iterator", data := .fields #[.ref a, .int 0 0] }
abbrev k2 (h : Heap) (a b : Addr) : Heap := (k1 h a).push { cls := .type "list_iterator", data := .fields #[.ref b, .int 0 0] }
abbrev k3 (h : Heap) (a b : Addr) : Heap := (k2 h a b).push { cls := .type "tuple", data := .seq #[.ref h.objs.size, .ref (k1 h a).objs.size] }
abbrev k4 (h : Heap) (a b : Addr) : Heap := (k3 h a b).push { cls := .type "tuple", data := .seq #[.none, .none] }
abbrev k5 (h : Heap) (a b : Addr) : Heap := (k4 h a b).push { cls := .type "zip", data := .fields #[.none, .bool false, .bool false, .ref (k2 h a b).objs.size, .ref (k3 h a b).objs.size] }
theorem made (a b : Addr) (xs ys : Array Value) : Meets (Builtin.«zip.__new__» ⟨[.type "zip", .ref a, .ref b], []⟩) (fun _ R t => t.heap.IsTuple a xs ∧ t.heap.IsList b ys ∧ R (.ok (.ret (.ref (k4 t.heap a b).objs.size))) { t with heap := k5 t.heap a b }) :=
  .of_wp fun P w A R t h => by
    obtain ⟨hp, g, d, tk, os⟩ := t
    obtain ⟨u1, u2, h⟩ := h
    have hsub := sub_zip
    have v1 : Heap.IsTuple (Shared.heap ⟨hp, g, d, tk, os⟩) a xs := u1
    have v2 : Heap.IsList (Shared.heap ⟨hp.push { cls := .type "tuple_iterator", data := .fields #[.ref a, .int 0 0] }, g, d, tk, os⟩) b ys := Heap.IsList.push u2 _
    wp_walk using wpAny_pyIter_tuple v1, wpAny_pyIter_list v2
    exact ⟨_, rfl, h⟩
section
variable {P : Program} {w : World} {A : Around} {E : Value → Shared → Prop} {s : Shared}
end
end Zm
namespace TG
open PySem L2 Gx
section
variable {P : Program} {w : World} {K : PySem.W.Frag} {mg : Str → Option Value} {base : Heap} {cs : List (Addr × Addr)}
end
end TG
namespace TG
open PySem L2 Gx
section
variable {P : Program} {w : World} {K : PySem.W.Frag} {mg : Str → Option Value} {base : Heap} {cs : List (Addr × Addr)}
end
end TG
namespace Lv
open PySem PySem.Spec PyProof.Rows L2 NdefX GenW
/-- the object at f is the lambda F of the body e -/
def FnL (f : Addr) (F : NF) (e : Expr) : HO := .ext fun h => ∃ (od : Option Addr) (sl : Array (Option Value)) (pm ctv : Value), h.get? f = some (⟨.type "function", od, .func (PySem.W.kla_fn F.name F.qual F.params e F.scope F.cl pm (.ref F.c) ctv), sl⟩ : Obj)
theorem fnL_at {P : Program} {w : World} {H : Hp} {h : Heap} {f : Addr} {F : NF} {e : Expr} (hok : HOk P w H h) (q : H f = some (FnL f F e)) : ∃ (od : Option Addr) (sl : Array (Option Value)) (pm ctv : Value), h.get? f = some (⟨.type "function", od, .func (PySem.W.kla_fn F.name F.qual F.params e F.scope F.cl pm (.ref F.c) ctv), sl⟩ : Obj) := by
  have z := hok f _ q
  obtain ⟨z, _, _⟩ := z
  exact z
section
variable {X : Cx} {pins : List (Addr × Obj)} {σ : L2.St} {H : Hp} {s : Shared}
theorem inv_lam {F : NF} {e : Expr} {tk : Nat} {pm ctv : Value} (I : Inv X pins σ H s) :
    Inv X pins σ (upd H s.heap.objs.size (FnL s.heap.objs.size F e)) { s with heap := s.heap.push (PySem.W.kla_obj F.name F.qual F.params e F.scope F.cl pm F.c ctv), toks := tk } := by
  refine I.laid (a := s.heap.objs.size) (fun b u q => Heap.get?_push_of_some _ q) (Nat.le_refl _) ?_
  have q : (s.heap.push (PySem.W.kla_obj F.name F.qual F.params e F.scope F.cl pm F.c ctv)).get? s.heap.objs.size = some (PySem.W.kla_obj F.name F.qual F.params e F.scope F.cl pm F.c ctv) := Heap.get?_push_size _ rfl
  exact ⟨⟨_, _, pm, ctv, q⟩, ⟨_, q⟩, fun h1 h2 ⟨od, sl, p, t, z⟩ st => ⟨od, sl, p, t, st _ z⟩⟩
/-- a lambda's object is made, its code object too, if the table has none yet -/
theorem lam_val {c P : Addr} {params : Arguments} {body : Expr} {scope : Scope} {pos : Pos} {E : Value → Shared → Prop} {Q : Value → Shared → Prop} (I : Inv X pins σ H s) (B : LamX.TabB X.base X.mg c P) (hcode : X.env.code = .ref c)
    (hT : LamX.TabS H P (X.env.qual ++ "<lambda>")) (hdef : defaultsOf params X.env = ([], [])) (hfree : ∀ y ∈ scope.names, y.2 = .free → ∃ c, X.env.cells.lookup y.1 = some c)
    (k : ∀ (f c' : Addr) (H1 : Hp) (s' : Shared), Inv X pins σ H1 s' → (∀ b o, H b = some o → b ≠ P → H1 b = some o) → (∀ b, H1 b = none → H b = none) → LamX.TabS H1 P (X.env.qual ++ "<lambda>") → H f = none →
      H1 f = some (FnL f ⟨"<lambda>", X.env.qual ++ "<lambda>", params, [], scope, cloFrom X.env.cells scope.names [], c'⟩ body) → H1 c' = some (LamX.CodeO c' (X.env.qual ++ "<lambda>")) → Q (.ref f) s') :
    wpAny (model X.prog X.w) X.A (eval (.Lambda params body scope pos) X.env) Q E s := by
  obtain ⟨ps, tP, tok, tin⟩ := hT
  have bP : s.heap.BuiltinsAt X.mg P := B.bm.keeps I.bk
  have gP : s.heap.get? P = some { cls := .none, data := .fields ps } := I.hok P _ tP
  have none3 : ∀ {G : Hp} {x y z : Addr} {o u v : HO} {b : Addr}, upd (upd (upd G x o) y u) z v b = none → G b = none := fun {G x y z o u v b} q => by
    have r1 := q
    unfold upd at r1
    split at r1
    · cases r1
    split at r1
    · cases r1
    split at r1
    · cases r1
    exact r1
  refine PySem.W.kla_eval hdef ?_
  cases hc : codeAmong pos ps.toList with
  | some cv =>
    obtain ⟨c', e, hco⟩ := tin pos cv hc
    subst e
    refine PySem.W.kla_makeFunctionHit (mg := X.mg) (c := c) (P := P) (ps := ps) (closure_ok hfree) I.ok.glob (I.mod.glob.keeps I.bk) hcode (B.code.keeps I.bk) gP tok hc bP fun ctv h' tk hx hsz => ?_
    have I1 : Inv X pins σ H { s with heap := h', toks := tk } := I.kept hx
    have nF : H h'.objs.size = none := I1.hok.fresh (Nat.le_refl _)
    have I2 := inv_lam (F := ⟨"<lambda>", X.env.qual ++ "<lambda>", params, [], scope, cloFrom X.env.cells scope.names [], c'⟩) (e := body) (tk := tk) (pm := (X.mg "__name__").getD .none) (ctv := ctv) I1
    refine k h'.objs.size c' _ _ I2 (fun b o q _ => by rw [upd_ne (ne_of_none q nF)]; exact q) (fun b q => ?_) ⟨ps, by rw [upd_ne (ne_of_none tP nF)]; exact tP, tok, fun p' cv' q => ?_⟩ nF upd_same (by rw [upd_ne (ne_of_none hco nF)]; exact hco)
    · unfold upd at q
      split at q
      · cases q
      · exact q
    · obtain ⟨c0, e1, e2⟩ := tin p' cv' q
      exact ⟨c0, e1, by rw [upd_ne (ne_of_none e2 nF)]; exact e2⟩
  | none =>
    refine PySem.W.kla_makeFunction (mg := X.mg) (c := c) (P := P) (ps := ps) (closure_ok hfree) I.ok.glob (I.mod.glob.keeps I.bk) hcode (B.code.keeps I.bk) gP tok hc B.gP bP fun c' ctv h' tk hx hge hlt hrec htb => ?_
    obtain ⟨c2, oc, vs, t, e2, hoc, hd, hv⟩ := hrec
    cases e2
    have nC : H c' = none := I.hok.fresh hge
    have I1 := LamX.inv_table (t' := tk) (more := #[rawInt pos.line, rawInt pos.col, .ref c']) (h' := h') I tP (fun b o hb q => hx b o hb q) htb hge ⟨oc, vs, t, hoc, hd, hv⟩
    have nF := I1.hok.fresh (Nat.le_refl _)
    have I2 := inv_lam (F := ⟨"<lambda>", X.env.qual ++ "<lambda>", params, [], scope, cloFrom X.env.cells scope.names [], c'⟩) (e := body) (tk := tk) (pm := (X.mg "__name__").getD .none) (ctv := ctv) I1
    have fC : h'.objs.size ≠ c' := Nat.ne_of_gt hlt
    have pC : P ≠ c' := ne_of_none tP nC
    have nF0 : H h'.objs.size = none := I.hok.fresh (Nat.le_trans hge (Nat.le_of_lt hlt))
    have pF : P ≠ h'.objs.size := ne_of_none tP nF0
    have eL : (ps ++ #[rawInt pos.line, rawInt pos.col, .ref c']).toList = ps.toList ++ [rawInt pos.line, rawInt pos.col, .ref c'] := by simp
    have kk : ∀ b o, H b = some o → b ≠ P → upd (upd (upd H P (.tbl (ps ++ #[rawInt pos.line, rawInt pos.col, .ref c']))) c' (LamX.CodeO c' (X.env.qual ++ "<lambda>"))) h'.objs.size (FnL h'.objs.size ⟨"<lambda>", X.env.qual ++ "<lambda>", params, [], scope, cloFrom X.env.cells scope.names [], c'⟩ body) b = some o := fun b o q hb => by
      rw [upd_ne (ne_of_none q nF0), upd_ne (ne_of_none q nC), upd_ne hb]
      exact q
    refine k h'.objs.size c' _ _ I2 kk (fun b q => none3 q) ⟨_, by rw [upd_ne pF, upd_ne pC, upd_same], by rw [eL]; exact PySem.TriplesOk_snoc _ _ _ _ tok, fun p' cv q => ?_⟩ nF0 upd_same (by rw [upd_ne fC.symm, upd_same])
    rw [eL] at q
    rcases LamX.among_app _ tok q with z | z
    · obtain ⟨c0, e1, e2⟩ := tin p' cv z
      exact ⟨c0, e1, kk _ _ e2 (fun y => by rw [y, tP] at e2; exact LamX.codeO_ne ps (Option.some.inj e2).symm)⟩
    · exact ⟨c', z, by rw [upd_ne fC.symm, upd_same]⟩
end
section
variable {P : Program} {w : World} {K : PySem.W.Frag} {mg : Str → Option Value} {base : Heap}
end
end Lv
namespace TG
open PySem PySem.Spec PyProof.Rows L2
abbrev cellF (o : Obj) : HO := .frz o (.own 0)
def addC (H : Hp) (cl : List (Addr × Obj)) : Hp := fun b => match cl.lookup b with
  | some o => some (cellF o)
  | none => H b
def delC (H : Hp) (cl : List (Addr × Obj)) : Hp := fun b => match cl.lookup b with
  | some _ => none
  | none => H b
theorem addC_in {H : Hp} {cl : List (Addr × Obj)} {b : Addr} {o : Obj} (h : cl.lookup b = some o) : addC H cl b = some (cellF o) := by unfold addC; rw [h]
theorem addC_out {H : Hp} {cl : List (Addr × Obj)} {b : Addr} (h : cl.lookup b = none) : addC H cl b = H b := by unfold addC; rw [h]
theorem delC_in {H : Hp} {cl : List (Addr × Obj)} {b : Addr} {o : Obj} (h : cl.lookup b = some o) : delC H cl b = none := by unfold delC; rw [h]
theorem delC_out {H : Hp} {cl : List (Addr × Obj)} {b : Addr} (h : cl.lookup b = none) : delC H cl b = H b := by unfold delC; rw [h]
section
variable {P : Program} {w : World}
theorem objOk_congr {H1 H2 : Hp} {h : Heap} {a : Addr} (k : ∀ b o, H1 b = some o → (∀ u v, o ≠ .frz u v) → H2 b = some o) : ∀ u : HO, ObjOk P w H1 h a u → ObjOk P w H2 h a u
  | .lst _, x => x
  | .tup _, x => x
  | .dK _, x => x
  | .dT _, ⟨x1, x2, xs, x3, x4⟩ => ⟨x1, x2, xs, x3.mono fun p q ⟨e1, e2, e3⟩ => ⟨e1, k _ _ e2 (fun u v z => by cases z), e3⟩, x4⟩
  | .set _ _, x => x
  | .ins _ _ _, ⟨x1, x2⟩ => ⟨k _ _ x1 (fun u v z => by cases z), x2⟩
  | .own _, x => x
  | .xd _, x => x
  | .rng _ _, x => x
  | .frz _ u, ⟨x1, x2⟩ => ⟨x1, objOk_congr k u x2⟩
  | .tbl _, x => x
  | .met _ _, x => x
  | .ext _, x => x
/-- the cells stand as they are told, and were untold -/
structure CellsIn (cl : List (Addr × Obj)) (base : Heap) (fs : List Addr) (h : Heap) : Prop where
  at_ : ∀ c o, cl.lookup c = some o → h.get? c = some o ∧ base.get? c = none ∧ c ∉ fs
theorem hok_add {H : Hp} {h : Heap} {cl : List (Addr × Obj)} (hk : HOk P w H h) (n : ∀ c o, cl.lookup c = some o → H c = none ∧ h.get? c = some o) : HOk P w (addC H cl) h := fun a o e => by
  cases q : cl.lookup a with
  | some u =>
    rw [addC_in q] at e
    cases e
    exact ⟨(n a u q).2, ⟨u, (n a u q).2⟩⟩
  | none =>
    rw [addC_out q] at e
    refine objOk_congr (fun b v hb _ => ?_) o (hk a o e)
    cases r : cl.lookup b with
    | some u => rw [(n b u r).1] at hb; cases hb
    | none => rw [addC_out r]; exact hb
theorem hok_del {H : Hp} {h : Heap} {cl : List (Addr × Obj)} (hk : HOk P w H h) (n : ∀ c o, cl.lookup c = some o → H c = some (cellF o)) : HOk P w (delC H cl) h := fun a o e => by
  cases q : cl.lookup a with
  | some u => rw [delC_in q] at e; cases e
  | none =>
    rw [delC_out q] at e
    refine objOk_congr (fun b v hb nf => ?_) o (hk a o e)
    cases r : cl.lookup b with
    | some u =>
      rw [n b u r] at hb
      cases hb
      exact absurd rfl (nf _ _)
    | none => rw [delC_out r]; exact hb
variable {K : PySem.W.Frag} {mg : Str → Option Value} {base : Heap} {A : Around} {outer : List Env} {s s' : Shared}
/-- told of: as a callee finds it -/
theorem env_add {H : Hp} {cl : List (Addr × Obj)} (e0 : Env0 P w K mg base A outer s H) (C : CellsIn cl base (frs outer) s.heap) (n : ∀ c o, cl.lookup c = some o → H c = none) : Env0 P w K mg base A outer s (addC H cl) := by
  refine ⟨e0.frames, e0.mod, fun b o hb => ⟨(e0.bs b o hb).1, ?_⟩, e0.bsz, e0.funs, fun b hb => ?_, hok_add e0.hok fun c o q => ⟨n c o q, (C.at_ c o q).1⟩, e0.bare⟩
  · cases r : cl.lookup b with
    | some u => rw [(C.at_ b u r).2.1] at hb; cases hb
    | none => rw [addC_out r]; exact (e0.bs b o hb).2
  · cases r : cl.lookup b with
    | some u => exact absurd hb (C.at_ b u r).2.2
    | none => rw [addC_out r]; exact e0.frf b hb
/-- untold of: as the frame that has the cells finds it -/
theorem env_del {H : Hp} {cl : List (Addr × Obj)} (e0 : Env0 P w K mg base A outer s H) (n : ∀ c o, cl.lookup c = some o → H c = some (cellF o)) : Env0 P w K mg base A outer s (delC H cl) := by
  refine ⟨e0.frames, e0.mod, fun b o hb => ⟨(e0.bs b o hb).1, ?_⟩, e0.bsz, e0.funs, fun b hb => ?_, hok_del e0.hok n, e0.bare⟩
  · cases r : cl.lookup b with
    | some u => exact delC_in r
    | none => rw [delC_out r]; exact (e0.bs b o hb).2
  · cases r : cl.lookup b with
    | some u => exact delC_in r
    | none => rw [delC_out r]; exact e0.frf b hb
theorem un_del {fs : List Addr} {H H' : Hp} {h h' : Heap} {cl : List (Addr × Obj)} (u : Un fs [] (addC H cl) H' h h') (hk : HOk P w H' h') (n : ∀ c o, cl.lookup c = some o → H c = none ∧ h.get? c = some o ∧ c ∉ fs) : Un fs [] H (delC H' cl) h h' := by
  have told : ∀ c o, cl.lookup c = some o → H' c = some (cellF o) := fun c o q => u.frzs c o _ (addC_in q)
  have out : ∀ {b : Addr} {o : HO}, H b = some o → cl.lookup b = none := fun {b o} hb => by
    cases r : cl.lookup b with
    | some v => rw [(n b v r).1] at hb; cases hb
    | none => rfl
  refine ⟨fun b o hb nb hf hx => ?_, fun b o hb nb hf hx => ?_, fun b o hb nb hx => ?_, fun b o hb hx => u.there b o hb hx, fun b xs hb => ?_, fun b o v hb => ?_, fun b ps hb => ?_⟩
  · cases r : cl.lookup b with
    | some v =>
      rw [(n b v r).2.1] at hb
      cases hb
      exact (hk b _ (told b _ r)).1
    | none => exact u.keep b o hb (by rw [addC_out r]; exact nb) hf hx
  · cases r : cl.lookup b with
    | some v => exact absurd hf (n b v r).2.2
    | none => exact u.slot b o hb (by rw [addC_out r]; exact nb) hf hx
  · cases r : cl.lookup b with
    | some v => exact delC_in r
    | none => rw [delC_out r]; exact u.free b o hb (by rw [addC_out r]; exact nb) hx
  · rw [delC_out (out hb)]
    exact u.tups b xs (by rw [addC_out (out hb)]; exact hb)
  · rw [delC_out (out hb)]
    exact u.frzs b o v (by rw [addC_out (out hb)]; exact hb)
  · obtain ⟨more, q⟩ := u.tbls b ps (by rw [addC_out (out hb)]; exact hb)
    exact ⟨more, by rw [delC_out (out hb)]; exact q⟩
/-- back from a callee that was told of the cells -/
theorem ce_del {H : Hp} {cl : List (Addr × Obj)} {Q : VK} {u : Value} (C : CellsIn cl base (frs outer) s.heap) (n : ∀ c o, cl.lookup c = some o → H c = none) (h : CE outer P w (addC H cl) s (fun v H' => (∀ c o, cl.lookup c = some o → H' c = some (cellF o)) → Q v (delC H' cl)) u s') : CE outer P w H s Q u s' := by
  obtain ⟨v, H', h1, h2, un, hk, r, q⟩ := h
  have told : ∀ c o, cl.lookup c = some o → H' c = some (cellF o) := fun c o e => un.frzs c o _ (addC_in e)
  exact ⟨v, delC H' cl, h1, h2, un_del un hk (fun c o e => ⟨n c o e, (C.at_ c o e).1, (C.at_ c o e).2.2⟩), hok_del hk told, r, q told⟩
theorem un_add {fs : List Addr} {H H' : Hp} {h h' : Heap} {cl : List (Addr × Obj)} (u : Un fs [] (delC H cl) H' h h') (n : ∀ c o, cl.lookup c = some o → H c = some (cellF o) ∧ h.get? c = some o ∧ c ∉ fs) : Un fs [] H (addC H' cl) h h' := by
  have frz : ∀ {b : Addr} {o : HO}, H b = some o → (∀ a v, o ≠ .frz a v) → cl.lookup b = none := fun {b o} hb nf => by
    cases r : cl.lookup b with
    | some v =>
      rw [(n b v r).1] at hb
      cases hb
      exact absurd rfl (nf _ _)
    | none => rfl
  refine ⟨fun b o hb nb hf hx => ?_, fun b o hb nb hf hx => ?_, fun b o hb nb hx => ?_, fun b o hb hx => u.there b o hb hx, fun b xs hb => ?_, fun b o v hb => ?_, fun b ps hb => ?_⟩
  · cases r : cl.lookup b with
    | some v => rw [(n b v r).1] at nb; cases nb
    | none => exact u.keep b o hb (by rw [delC_out r]; exact nb) hf hx
  · cases r : cl.lookup b with
    | some v => rw [(n b v r).1] at nb; cases nb
    | none => exact u.slot b o hb (by rw [delC_out r]; exact nb) hf hx
  · cases r : cl.lookup b with
    | some v => rw [(n b v r).1] at nb; cases nb
    | none => rw [addC_out r]; exact u.free b o hb (by rw [delC_out r]; exact nb) hx
  · have r := frz hb fun a v z => by cases z
    rw [addC_out r]
    exact u.tups b xs (by rw [delC_out r]; exact hb)
  · cases r : cl.lookup b with
    | some q =>
      rw [(n b q r).1] at hb
      rw [addC_in r]
      exact hb
    | none =>
      rw [addC_out r]
      exact u.frzs b o v (by rw [delC_out r]; exact hb)
  · have r := frz hb fun a v z => by cases z
    obtain ⟨more, q⟩ := u.tbls b ps (by rw [delC_out r]; exact hb)
    exact ⟨more, by rw [addC_out r]; exact q⟩
/-- behind the frame that has the cells: they are told of again -/
theorem ce_add {H : Hp} {cl : List (Addr × Obj)} {Q : VK} {u : Value} (hk0 : HOk P w H s.heap) (n : ∀ c o, cl.lookup c = some o → H c = some (cellF o) ∧ c ∉ frs outer) (h : CE outer P w (delC H cl) s (fun v H' => (∀ c o, cl.lookup c = some o → H' c = none) → Q v (addC H' cl)) u s') : CE outer P w H s Q u s' := by
  obtain ⟨v, H', h1, h2, un, hk, r, q⟩ := h
  have at0 : ∀ c o, cl.lookup c = some o → s.heap.get? c = some o := fun c o e => (hk0 c _ (n c o e).1).1
  refine ⟨v, addC H' cl, h1, h2, un_add un fun c o e => ⟨(n c o e).1, at0 c o e, (n c o e).2⟩, hok_add hk fun c o e => ?_, r, q fun c o e => un.free c o (at0 c o e) (delC_in e) (by simp)⟩
  exact ⟨un.free c o (at0 c o e) (delC_in e) (by simp), un.keep c o (at0 c o e) (delC_in e) (n c o e).2 (by simp)⟩
theorem cx_add {H : Hp} {cl : List (Addr × Obj)} {E : XK} {u : Value} (hk0 : HOk P w H s.heap) (n : ∀ c o, cl.lookup c = some o → H c = some (cellF o) ∧ c ∉ frs outer) (h : L2.CX P w outer (delC H cl) s (fun cls d H' => (∀ c o, cl.lookup c = some o → H' c = none) → E cls d (addC H' cl)) u s') : L2.CX P w outer H s E u s' := by
  obtain ⟨a, B, H', cls, d, e1, fly, hk, ub, na, h1, h2, q⟩ := h
  have at0 : ∀ c o, cl.lookup c = some o → s.heap.get? c = some o := fun c o e => (hk0 c _ (n c o e).1).1
  have atB : ∀ c o, cl.lookup c = some o → B.get? c = some o := fun c o e => ub.keep c o (at0 c o e) (delC_in e) (n c o e).2
  have frz : ∀ {b : Addr} {o : HO}, H b = some o → (∀ a v, o ≠ .frz a v) → cl.lookup b = none := fun {b o} hb nf => by
    cases r : cl.lookup b with
    | some v =>
      rw [(n b v r).1] at hb
      cases hb
      exact absurd rfl (nf _ _)
    | none => rfl
  refine ⟨a, B, addC H' cl, cls, d, e1, fly, hok_add hk fun c o e => ⟨ub.free c o (at0 c o e) (delC_in e), atB c o e⟩, ⟨fun b o hb nb hf => ?_, ub.slot, fun b o hb nb => ?_, ub.there, fun b xs hb => ?_, fun b o v hb => ?_, fun b ps hb => ?_⟩, ?_, h1, h2, q fun c o e => ub.free c o (at0 c o e) (delC_in e)⟩
  · cases r : cl.lookup b with
    | some v => rw [(n b v r).1] at nb; cases nb
    | none => exact ub.keep b o hb (by rw [delC_out r]; exact nb) hf
  · cases r : cl.lookup b with
    | some v => rw [(n b v r).1] at nb; cases nb
    | none => rw [addC_out r]; exact ub.free b o hb (by rw [delC_out r]; exact nb)
  · have r := frz hb fun a v z => by cases z
    rw [addC_out r]
    exact ub.tups b xs (by rw [delC_out r]; exact hb)
  · cases r : cl.lookup b with
    | some q =>
      rw [(n b q r).1] at hb
      rw [addC_in r]
      exact hb
    | none =>
      rw [addC_out r]
      exact ub.frzs b o v (by rw [delC_out r]; exact hb)
  · have r := frz hb fun a v z => by cases z
    obtain ⟨more, q⟩ := ub.tbls b ps (by rw [delC_out r]; exact hb)
    exact ⟨more, by rw [addC_out r]; exact q⟩
  · cases r : cl.lookup a with
    | some v =>
      have z := fly.2.1
      rw [atB a v r] at z
      cases z
    | none => rw [addC_out r]; exact na
end
end TG
namespace TG
open PySem PySem.Spec PyProof.Rows L2 NdefX GenW Gx Lv
/-- the captured names' cells, told of, hold these values -/
structure Caught (F : NF) (fr : List Str) (ws : List (Option V)) (cl : List (Addr × Obj)) (H : Hp) : Prop where
  len : ws.length = fr.length
  told : ∀ c o, cl.lookup c = some o → H c = some (cellF o)
  all : ∀ y c, F.cl.lookup y = some c → ∃ o v, cl.lookup c = some o ∧ o.data = .cell v
  inj : ∀ x y c, F.cl.lookup x = some c → F.cl.lookup y = some c → x = y
  has : ∀ (i : Nat) (y : Str), fr[i]? = some y → ∃ c, F.cl.lookup y = some c ∧ ∀ v, ws[i]? = some (some v) → ∃ o u, cl.lookup c = some o ∧ o.data = .cell (some u) ∧ RelV v u
section
variable {P : Program} {w : World} {K : PySem.W.Frag} {mg : Str → Option Value} {base : Heap}
structure LOkX (P : Program) (w : World) (K : PySem.W.Frag) (mg : Str → Option Value) (base : Heap) (k : Nat) (f : Addr) (F : NF) (e : Expr) (sp : Sp) : Prop where
  run : ∀ (A : Around) (outer : List Env) (s : Shared) (H : Hp) (Q : VK) (E : XK), Room k A → Env0 P w K mg base A outer s H → H f = some (FnL f F e) → H F.c = some (LamX.CodeO F.c F.qual) → sp [] H Q E →
    codeAny (model P w) A (.call (.ref f) ⟨[], []⟩) (CR (L2.CX P w) outer P w H s Q E) s
theorem lokx_of {k : Nat} {f : Addr} {F : NF} {e : Expr} {N fr : List Str} {sp : Sp} (S : NScope N [] fr F.scope) (hb : ∀ (pm ctv : Value), bindArgs (PySem.W.kla_fn F.name F.qual F.params e F.scope F.cl pm (.ref F.c) ctv) ⟨[], []⟩ = pure [])
    (hbody : ∀ (A : Around) (outer : List Env) (s : Shared) (H : Hp) (Q : VK) (E : XK), Room k (A.deeper (envF F f s.heap.objs.size)) → sp [] H Q E → ∃ (ws : List (Option V)) (cl : List (Addr × Obj)) (t : TE), Caught F fr ws cl H ∧
      PE (ncx (L2.CX P w) P w K mg base N F f A outer s (delC H cl) (fun cls d H' => (∀ c o, cl.lookup c = some o → H' c = none) → E cls d (addC H' cl))) e t ∧ t (startF N [] ws) (delC H cl) (fun v H' => (∀ c o, cl.lookup c = some o → H' c = none) → Q v (addC H' cl))) :
    LOkX P w K mg base (k + 1) f F e sp := by
  refine ⟨fun A outer s H Q E hr e0 hf hc hsp => ?_⟩
  have lim : s.heap.NoLimit := e0.mod.nolimit.keeps fun b o q => (e0.bs b o q).1
  obtain ⟨od, sl, pm, ctv, ho⟩ := fnL_at e0.hok hf
  obtain ⟨ws, cl, t, C, ht, hq⟩ := hbody A outer s H Q E (hr.deeper _) hsp
  have hnf : ∀ c o, cl.lookup c = some o → c ∉ frs outer := fun c o q hb => by
    have z := e0.frf c hb
    rw [C.told c o q] at z
    cases z
  have at0 : ∀ c o, cl.lookup c = some o → s.heap.get? c = some o := fun c o q => (e0.hok c _ (C.told c o q)).1
  refine codeAny_mono (R := CR (L2.CX P w) outer P w (delC H cl) s (fun v H' => (∀ c o, cl.lookup c = some o → H' c = none) → Q v (addC H' cl)) (fun cls d H' => (∀ c o, cl.lookup c = some o → H' c = none) → E cls d (addC H' cl))) ?_ fun r s' q => ?_
  · have e1 := env_del e0 C.told
    refine PySem.W.kla_callFunE hr.depth ho rfl S.co S.gen rfl (codeO_at e0.hok hc) ?_
    rw [hb pm ctv]
    refine wpAny_pure (wpAny_newFunctionEnv S.nocell (fun ⟨n, _⟩ hy => by cases hy) (fun h₁ hns hsb => ⟨lim.fresh _ hsb, ?_⟩) S.kind)
    have kp : ∀ b o, s.heap.get? b = some o → h₁.get? b = some o := fun b o q => hsb.extBut b o (Nat.ne_of_lt (Heap.lt_size q)) (Heap.get?_push_of_some _ q)
    have CA : NdefX.CellsAt F.cl fr ws s.heap (delC H cl) := by
      refine ⟨C.len, fun y c q => ?_, C.inj, fun i y q => ?_⟩
      · obtain ⟨o, v, h1, h2⟩ := C.all y c q
        exact ⟨delC_in h1, v, o, at0 c o h1, h2⟩
      · obtain ⟨c, h1, h2⟩ := C.has i y q
        refine ⟨c, h1, fun v hv => ?_⟩
        obtain ⟨o, u, h3, h4, h5⟩ := h2 v hv
        exact ⟨u, h5, o, at0 c o h3, h4⟩
    have I := inv_startN (CX := L2.CX P w) (P := P) (w := w) (E := fun cls d H' => (∀ c o, cl.lookup c = some o → H' c = none) → E cls d (addC H' cl)) (f := f) (tk := s.toks + (([] : List Str).zip ([] : List Value)).length) S hr.hd e1 (vs := []) (us := []) rfl .nil CA hns kp
    refine PySem.W.kla_codeExpr (wpAny_mono (ht.run [] _ (startF N [] ws) (delC H cl) _ I hq) (fun v s' q => ?_) fun e' s' q => q)
    obtain ⟨w', H', J, rv, q⟩ := q
    exact ⟨w', H', J.os, J.bare, J.base, J.hok, rv, q⟩
  · cases r with
    | error er => exact cx_add e0.hok (fun c o q => ⟨C.told c o q, hnf c o q⟩) q
    | ok fl =>
      cases fl with
      | ret u => exact ce_add e0.hok (fun c o q => ⟨C.told c o q, hnf c o q⟩) q
      | next => exact False.elim q
      | brk => exact False.elim q
      | cont => exact False.elim q
end
end TG
namespace TG
open PySem PySem.Spec PyProof.Rows L2 NdefX GenW Gx Lv
structure ToldC (cells : List (Str × Addr)) (N names : List Str) (σ : L2.St) (cl : List (Addr × Obj)) : Prop where
  all : ∀ y ∈ names, ∃ c o v, cells.lookup y = some c ∧ cl.lookup c = some o ∧ o.data = .cell v
  val : ∀ y ∈ names, ∀ c o, cells.lookup y = some c → cl.lookup c = some o → ∀ (i : Nat) (v : V), N[i]? = some y → σ[i]? = some (some v) → ∃ u, o.data = .cell (some u) ∧ RelV v u
  inj : ∀ y z c, cells.lookup y = some c → cells.lookup z = some c → y = z
theorem cells_list {h : Heap} {cells : List (Str × Addr)} : ∀ names : List Str, (∀ y ∈ names, ∃ c v, cells.lookup y = some c ∧ h.IsCell c v) →
    ∃ cl : List (Addr × Obj), (∀ c o, cl.lookup c = some o → h.get? c = some o ∧ ∃ y ∈ names, cells.lookup y = some c) ∧ ∀ y ∈ names, ∀ c, cells.lookup y = some c → ∃ o, cl.lookup c = some o
  | [], _ => ⟨[], ⟨fun c o e => by simp at e, fun y hy => by simp at hy⟩⟩
  | y :: names, k => by
    obtain ⟨cl, h1, h2⟩ := cells_list names fun z hz => k z (List.mem_cons_of_mem _ hz)
    obtain ⟨c, v, e1, o, e2, _⟩ := k y List.mem_cons_self
    refine ⟨(c, o) :: cl, fun c' o' e => ?_, fun z hz c' e => ?_⟩
    · rw [List.lookup_cons] at e
      by_cases q : c' = c
      · rw [q, beq_self_eq_true] at e
        cases e
        rw [q]
        exact ⟨e2, y, List.mem_cons_self, e1⟩
      · rw [beq_false_of_ne q] at e
        obtain ⟨g1, z, hz, g2⟩ := h1 c' o' e
        exact ⟨g1, z, List.mem_cons_of_mem _ hz, g2⟩
    · rw [List.lookup_cons]
      by_cases q : c' = c
      · rw [q, beq_self_eq_true]
        exact ⟨o, rfl⟩
      · rw [beq_false_of_ne q]
        rcases List.mem_cons.mp hz with r | r
        · rw [r, e1] at e
          exact absurd (Option.some.inj e).symm q
        · exact h2 z r c' e
def tCallC (cells : List (Str × Addr)) (N names : List Str) (sp : Sp) (t : TA) : TE := fun σ H Q => t σ H fun vs H1 => ∀ cl : List (Addr × Obj), ToldC cells N names σ cl → (∀ c o, cl.lookup c = some o → H1 c = none) →
  sp vs (addC H1 cl) (fun v H' => (∀ c o, cl.lookup c = some o → H' c = some (cellF o)) → Q v (delC H' cl)) (fun _ _ _ => False)
theorem pe_callC {X : Cx} {names : List Str} {k : Nat} {f : Addr} {fd : FuncData} {ps : List Str} {sp : Sp} {x : Str} {p pos : Pos} {e : Expr} {es : List Expr} {t : TA} (F : FnOk X.prog X.w X.K X.mg X.base CX0 k f fd ps sp) (hr : Room k X.A) (hg : Gl X x) (hm : X.mg x = some (.ref f)) (hk : PySem.W.keepIn X.K (.ref f) = true) (hb : Binds X.K fd ps [])
    (hfn : ∀ y ∈ names, X.fn y = true) (hcell : ∀ y ∈ names, X.env.kindOf y = some .cell) (ha : PA X (e :: es) t) (hdb : (x == ("__debug__" : Str)) = false := by decide) (he : starEach (e :: es) X.env = (false, eval e X.env) :: starEach es X.env := by rfl) (hpl : (backTo pos (starEach es X.env)).any (·.1) = false := by rfl) :
    PE X (.Call (.Name x p) (e :: es) [] pos) (tCallC X.env.cells X.N names sp t) := by
  refine ⟨fun pins s σ H Q I h => ?_⟩
  refine wpAny_Call_Name_kw (ld_glob I hg hm ?_ hdb)
  refine PySem.W.callWith_K (h₀ := X.base) I.ok.mod.kin hk (thn (ha.run pos pins s σ H _ I h) fun us s1 ⟨vs, H1, I1, r, q⟩ => ⟨I1.kIn, ?_⟩) he hpl
  show wpAny _ _ (call (.ref f) us) _ _ _
  have has : ∀ y ∈ names, ∃ c v, X.env.cells.lookup y = some c ∧ s1.heap.IsCell c v := fun y hy => by
    obtain ⟨c, hc⟩ := I1.ok.has y (.inl (hcell y hy))
    obtain ⟨v, hv⟩ := I1.cell y c hc
    exact ⟨c, v, hc, hv⟩
  obtain ⟨cl, c1, c2⟩ := cells_list names has
  have un : ∀ c o, cl.lookup c = some o → H1 c = none := fun c o e => by
    obtain ⟨_, y, _, hc⟩ := c1 c o e
    exact I1.freeC y c hc
  have C : CellsIn cl X.base (frs X.stack) s1.heap := ⟨fun c o e => by
    obtain ⟨g1, y, hy, hc⟩ := c1 c o e
    have ge := I1.ok.cab y c (hfn y hy) hc
    refine ⟨g1, ?_, fun hin => ?_⟩
    · cases z : X.base.get? c with
      | none => rfl
      | some u => exact absurd (Nat.lt_of_lt_of_le (Heap.lt_size (I1.ok.bs c u z).1) ge) (Nat.lt_irrefl _)
    · rcases List.mem_cons.mp (I1.stkSub c hin) with z | z
      · obtain ⟨m, hn, _⟩ := I1.loc
        obtain ⟨v, o2, q1, q2⟩ := I1.cell y c hc
        rw [z] at q1
        obtain ⟨o3, es3, ep3, q3, q4, _⟩ := hn
        rw [q1] at q3
        cases q3
        rw [q2] at q4
        cases q4
      · obtain ⟨_, o2, q1, _⟩ := I1.ok.funs.mem z
        exact absurd (Nat.lt_of_lt_of_le (Heap.lt_size q1) ge) (Nat.lt_irrefl _)⟩
  have T : ToldC X.env.cells X.N names σ cl := by
    refine ⟨fun y hy => ?_, fun y hy c o hc ho i v hN hs => ?_, I1.ok.inj⟩
    · obtain ⟨c, hc⟩ := I1.ok.has y (.inl (hcell y hy))
      obtain ⟨v, o2, q1, q2⟩ := I1.cell y c hc
      obtain ⟨o, ho⟩ := c2 y hy c hc
      have z := (c1 c o ho).1
      rw [q1] at z
      cases z
      exact ⟨c, _, v, hc, ho, q2⟩
    · obtain ⟨m, hn, loc⟩ := I1.loc
      obtain ⟨u, ru, lk⟩ := loc i y v hN hs (.inr (.inl (hcell y hy)))
      rcases lk with ⟨z, _⟩ | ⟨_, c', hc', o2, q1, q2⟩
      · rw [hcell y hy] at z; cases z
      · rw [hc] at hc'
        cases hc'
        have z := (c1 c o ho).1
        rw [q1] at z
        cases z
        exact ⟨u, q2, ru⟩
  have sq := q cl T un
  have hl : (us ++ []).length = ps.length := by rw [List.append_nil, ← r.length]; exact F.len _ _ _ _ sq
  have e1 := env_add I1.env0 C un
  have bd := hb s1 us I1.kIn hl
  rw [List.append_nil] at bd
  refine wpAny_call (codeAny_mono (F.run X.A X.stack s1 (addC H1 cl) ⟨us, []⟩ us vs _ _ hr e1 bd r sq) fun r' s' hq => ?_)
  cases r' with
  | error er => exact False.elim hq
  | ok fl =>
    cases fl with
    | ret u => exact I1.after (ce_del C un hq)
    | next => exact False.elim hq
    | brk => exact False.elim hq
    | cont => exact False.elim hq
end TG
namespace TG
open PySem PySem.Spec PyProof.Rows L2 NdefX GenW Gx Lv
/-- the reading of a lambda that captures cells of the frame -/
def tLamC (P : Addr) (q : Str) (params : Arguments) (body : Expr) (scope : Scope) (cl : List (Str × Addr)) : TE := fun _ H Q => LamX.TabS H P q ∧ ∀ (f c' : Addr) (H1 : Hp), (∀ b o, H b = some o → b ≠ P → H1 b = some o) → (∀ b, H1 b = none → H b = none) → LamX.TabS H1 P q → H f = none →
  H1 f = some (FnL f ⟨"<lambda>", q, params, [], scope, cl, c'⟩ body) → H1 c' = some (LamX.CodeO c' q) → Q (.ref f) H1
theorem pe_lamC {X : Cx} {c P : Addr} {params : Arguments} {body : Expr} {scope : Scope} {pos : Pos} (B : LamX.TabB X.base X.mg c P) (hcode : X.env.code = .ref c) (hdef : defaultsOf params X.env = ([], []))
    (hfr : ∀ y ∈ scope.names, y.2 = .free → X.env.kindOf y.1 = some .cell ∨ X.env.kindOf y.1 = some .free) :
    PE X (.Lambda params body scope pos) (tLamC P (X.env.qual ++ "<lambda>") params body scope (cloFrom X.env.cells scope.names [])) := by
  refine ⟨fun pins s σ H Q I h => ?_⟩
  obtain ⟨hT, h⟩ := h
  exact lam_val I B hcode hT hdef (fun y hy e => I.ok.has _ (hfr y hy e)) fun f c' H1 s' J k1 k2 t1 nf hf hc => ⟨.ref f, H1, J, rfl, h f c' H1 k1 k2 t1 nf hf hc⟩
end TG

namespace TG
open PySem PySem.Spec PyProof.Rows L2 Gx
theorem fold_one (c : Nat) : ∀ (n : Nat) (acc : Array Nat), (List.replicate n (#[c] : Array Nat)).foldl (fun a b => a ++ b) acc = acc ++ (List.replicate n c).toArray
  | 0, acc => by simp
  | n + 1, acc => by
    rw [List.replicate_succ, List.foldl_cons, fold_one c n]
    apply Array.toList_inj.mp
    simp [List.replicate_succ]
def repS (c : Nat) (n : Nat) : Str := ⟨(List.replicate n c).toArray⟩
theorem cl_repS (c n : Nat) : cl (repS c n) = List.replicate n c := by simp [cl, repS]
section
variable {X : Cx}
def rRepS : V → V → Hp → VK → Prop := fun x y H Q => ∃ (c : Nat) (n : Int), x = .str ⟨#[c]⟩ ∧ y = .int n ∧ 0 ≤ n ∧ n ≤ 1000 ∧ Q (.str (repS c n.toNat)) H
theorem op_repS : OpR X (binaryOp .Mult) rRepS := by
  intro pins s σ H x y v u Q I rx ry h
  obtain ⟨c, n, rfl, rfl, h0, h1, q⟩ := h
  obtain ⟨t, rfl⟩ := rx
  obtain ⟨t', rfl⟩ := ry
  have hs : ((⟨#[c]⟩ : Str).length) = 1 := rfl
  refine PySem.P.mul_str ?_ (fun _ _ => ?_) (fun _ _ => ?_) ?_
  · rw [decide_eq_false (by omega), decide_eq_false (by omega)]
    rfl
  · rw [hs]
    have : (1 : Int) ≤ (2 ^ 63 - 1) / n := Int.le_ediv_of_mul_le (by omega) (by omega)
    omega
  · rw [hs, Nat.one_mul]
    have sz : (1000 : Nat) < sizeLine := by decide
    exact decide_eq_false (by omega)
  · by_cases e : n < 1
    · rw [if_pos e]
      have e0 : n = 0 := by omega
      subst e0
      exact ⟨by decide, .str (repS c (0 : Int).toNat), H, I.tok _, ⟨_, rfl⟩, q⟩
    · rw [if_neg e]
      by_cases e1 : n = 1
      · subst e1
        rw [if_pos (by rfl)]
        exact (⟨.str (repS c (1 : Int).toNat), H, I, ⟨_, rfl⟩, q⟩ : EP X pins σ Q _ _)
      · rw [if_neg (by rw [hs]; simp [e1])]
        have hf : (⟨(List.replicate n.toNat (#[c] : Array Nat)).foldl (· ++ ·) #[]⟩ : Str) = repS c n.toNat := by
          unfold repS
          rw [fold_one]
          simp
        show Made.post (.str ⟨(List.replicate n.toNat (#[c] : Array Nat)).foldl (· ++ ·) #[]⟩) _ _
        rw [hf]
        have sz : (1000 : Nat) < sizeLine := by decide
        have hl : (repS c n.toNat).length = n.toNat := by unfold repS; simp [Str.length]
        exact ⟨by omega, .str (repS c n.toNat), H, I.tok _, ⟨_, rfl⟩, q⟩
end
end TG

namespace TG
open PySem PySem.Spec PyProof.Rows L2 Gx
/-! ### texts of pages -/
abbrev tabS : Str := "\t"
abbrev lineS : Str := "\n"
def rowT (r : List Str) : Str := Txt.join tabS r
def pageT (rows : List (List Str)) : Str := Txt.join lineS (rows.map rowT)
theorem cl_tabS : cl tabS = [9] := by decide +kernel
theorem cl_lineS : cl lineS = [10] := by decide +kernel
theorem cl_joinL (y : Str) (ps : List Str) : cl (Txt.join y ps) = TL.joinL (cl y) (ps.map cl) := by
  rw [TL.join_eq]
  exact TL.tl_join y ps
theorem joinL_mem (S : List Nat) : ∀ (ps : List (List Nat)) (c : Nat), c ∈ TL.joinL S ps → c ∈ S ∨ ∃ p ∈ ps, c ∈ p
  | [], c, h => by cases h
  | [p], c, h => .inr ⟨p, by simp, h⟩
  | p :: q :: r, c, h => by
    have h : c ∈ p ++ (S ++ TL.joinL S (q :: r)) := h
    rcases List.mem_append.mp h with h | h
    · exact .inr ⟨p, by simp, h⟩
    rcases List.mem_append.mp h with h | h
    · exact .inl h
    rcases joinL_mem S (q :: r) c h with h | ⟨x, hx, hc⟩
    · exact .inl h
    · exact .inr ⟨x, by simp at hx ⊢; exact .inr hx, hc⟩
theorem joinL_len (S : List Nat) (m : Nat) : ∀ (ps : List (List Nat)), (∀ p ∈ ps, p.length ≤ m) → (TL.joinL S ps).length ≤ ps.length * (m + S.length)
  | [], _ => Nat.zero_le _
  | [p], h => by
    have := h p (by simp)
    show p.length ≤ 1 * (m + S.length)
    omega
  | p :: q :: r, h => by
    have h1 := h p (by simp)
    have h2 := joinL_len S m (q :: r) fun x hx => h x (by simp at hx ⊢; exact .inr hx)
    show (p ++ (S ++ TL.joinL S (q :: r))).length ≤ ((q :: r).length + 1) * (m + S.length)
    rw [List.length_append, List.length_append, Nat.add_mul]
    omega
theorem rowT_sg {r : List Str} (h : RowOk r) : ∀ c ∈ cl (rowT r), c = 9 ∨ SgOk c := by
  intro c hc
  unfold rowT at hc
  rw [cl_joinL, cl_tabS] at hc
  rcases joinL_mem _ _ _ hc with h1 | ⟨p, hp, h1⟩
  · exact .inl (by simpa using h1)
  · obtain ⟨z, hz, rfl⟩ := List.mem_map.mp hp
    exact .inr ((h.3 z hz).2 c h1)
theorem rowT_len {r : List Str} (h : RowOk r) : (rowT r).length ≤ 66 := by
  rw [len_cl]
  unfold rowT
  rw [cl_joinL]
  have := joinL_len (cl tabS) 10 (r.map cl) fun p hp => by
    obtain ⟨z, hz, rfl⟩ := List.mem_map.mp hp
    have := (h.3 z hz).1
    rw [← len_cl]
    exact this
  rw [List.length_map, cl_tabS, show ([9] : List Nat).length = 1 from rfl] at this
  rw [cl_tabS]
  have := h.2
  omega
theorem pageT_len {rows : List (List Str)} (h : PgOk rows) : (pageT rows).length ≤ 2010 := by
  rw [len_cl]
  unfold pageT
  rw [cl_joinL]
  have := joinL_len (cl lineS) 66 ((rows.map rowT).map cl) fun p hp => by
    obtain ⟨z, hz, rfl⟩ := List.mem_map.mp hp
    obtain ⟨r, hr, rfl⟩ := List.mem_map.mp hz
    rw [← len_cl]
    exact rowT_len (h.rows r hr)
  rw [List.length_map, List.length_map, cl_lineS, show ([10] : List Nat).length = 1 from rfl] at this
  rw [cl_lineS]
  have := h.len
  omega
theorem split_row {r : List Str} (h : RowOk r) : Txt.split (rowT r) tabS = r := by
  refine TL.split_join (s := 9) (S := []) cl_tabS (by decide +kernel) ?_ fun p hp q => ?_
  · intro e
    have := h.1
    rw [e] at this
    simp at this
  · have q : 9 ∈ cl p := q
    have := (h.3 p hp).2 9 q
    unfold SgOk at this
    omega
theorem split_page {rows : List (List Str)} (h : PgOk rows) : Txt.split (pageT rows) lineS = rows.map rowT := by
  refine TL.split_join (s := 10) (S := []) cl_lineS (by decide +kernel) ?_ fun p hp q => ?_
  · intro e
    have := h.pos
    have e2 := congrArg List.length e
    rw [List.length_map] at e2
    simp at e2
    rw [e2] at this
    simp at this
  · obtain ⟨r, hr, rfl⟩ := List.mem_map.mp hp
    have q : 10 ∈ cl (rowT r) := q
    rcases rowT_sg (h.rows r hr) 10 q with e | e
    · omega
    · unfold SgOk at e
      omega
theorem kind_min1 (y : Str) (hy : Builtin.Str.strKind y = 1) (x : Str) : ¬ Builtin.Str.strKind x < Builtin.Str.strKind y := by
  rw [hy]
  unfold Builtin.Str.strKind
  split
  · decide
  · split <;> decide
theorem splLenT (S : List Nat) : ∀ (l acc : List Nat) (k : Nat) (p : List Nat), p ∈ TL.spl S k acc l → p.length ≤ acc.length + l.length
  | [], acc, k, p, h => by
    unfold TL.spl at h
    rw [List.mem_singleton] at h
    rw [h]
    exact Nat.le_add_right _ _
  | c :: r, acc, 0, p, h => by
    unfold TL.spl at h
    rw [List.length_cons]
    split at h
    · rcases List.mem_cons.mp h with z | z
      · rw [z]; omega
      · have := splLenT S r [] _ p z
        simp at this
        omega
    · have := splLenT S r _ _ p h
      rw [List.length_append, List.length_singleton] at this
      omega
  | c :: r, acc, k + 1, p, h => by
    unfold TL.spl at h
    have := splLenT S r _ _ p h
    rw [List.length_cons]
    omega
theorem split_clL (z y : Str) (h0 : cl y ≠ []) (hy : Builtin.Str.strKind y = 1) : (Txt.split z y).map cl = TL.spl (cl y) 0 [] (cl z) :=
  TL.split_spl z y h0 (kind_min1 y hy z)
theorem split_pieceL {z y p : Str} (h0 : cl y ≠ []) (hy : Builtin.Str.strKind y = 1) (h : p ∈ Txt.split z y) : p.length ≤ z.length := by
  have h2 : cl p ∈ TL.spl (cl y) 0 [] (cl z) := by rw [← split_clL z y h0 hy]; exact List.mem_map_of_mem h
  have := splLenT (cl y) _ _ _ _ h2
  simpa [cl, Str.length] using this
theorem kind_line : Builtin.Str.strKind lineS = 1 := by decide +kernel
theorem kind_tab : Builtin.Str.strKind tabS = 1 := by decide +kernel
/-- the rows of a text -/
def rowsT (z : Str) : List (List Str) := (Txt.split z lineS).map fun l => Txt.split l tabS
theorem rowsT_page {rows : List (List Str)} (h : PgOk rows) : rowsT (pageT rows) = rows := by
  unfold rowsT
  rw [split_page h, List.map_map]
  conv => rhs; rw [← List.map_id rows]
  apply List.map_congr_left
  intro r hr
  exact split_row (h.rows r hr)
structure RowsAt (ps : List Addr) (rows : List (List Str)) (H : Hp) : Prop where
  len : ps.length = rows.length
  row : ∀ (i : Nat) (q : Addr) (z : List Str), ps[i]? = some q → rows[i]? = some z → H q = some (.tup (sV z))
def rTupT (K : PySem.W.Frag) : List V → Hp → VK → Prop := fun xs H Q => ∃ p ys, xs = [V.ref p] ∧ ((SqL K H p ys ∧ ∀ l, H l = none → Q (.ref l) (upd H l (.tup ys))) ∨ (SqT K H p ys ∧ Q (.ref p) H))
def rJoin (K : PySem.W.Frag) : V → List V → Hp → VK → Prop := fun x xs H Q => ∃ a p, ∃ ys : List Str, x = .str a ∧ xs = [.ref p] ∧ (SqL K H p (ys.map V.str) ∨ SqT K H p (ys.map V.str)) ∧ (ys.map (·.length)).sum + ys.length * a.length ≤ 16777216 ∧ Q (.str (Txt.join a ys)) H
section
variable {P : Program} {w : World} {K : PySem.W.Frag} {mg : Str → Option Value} {base : Heap} {cs : List (Addr × Addr)}
def spRowsOf (cs : List (Addr × Addr)) : Sp := fun vs H Q _ => ∃ z : Str, vs = [.str z] ∧ Tabs cs H ∧ z.length ≤ 1000000 ∧
  ∀ (r : Addr) (ps : List Addr) (H' : Hp), Ex cs H H' → H r = none → H' r = some (.lst (ps.map V.ref)) → RowsAt ps (rowsT z) H' → Q (.ref r) H'
theorem sc_rowsof : FnScope ["text", "line"] ["text"] (defScope s_rows_of) := ⟨rfl, rfl, rfl, by decide +kernel, rfl, by decide +kernel, by decide +kernel⟩
theorem ok_rowsof {f : Addr} {fd : FuncData} (T : Txt mg) (eT : ∃ t, mg "TAB" = some (.str tabS t)) (eL : ∃ t, mg "LINE_END" = some (.str lineS t)) (F : Fun K "rows_of" "rows_of" s_rows_of f fd) : FnOk P w K mg base CX0 1 f fd ["text"] (spRowsOf cs) := by
  refine F.ok sc_rowsof (fun vs H Q E h => ?_) (fun cdv A outer s H vs Q E hr h => ?_)
  · obtain ⟨z, rfl, _⟩ := h
    rfl
  · obtain ⟨z, rfl, hT, hz2, k⟩ := h
    have nd := sc_rowsof.nd
    have szl : (10000000 : Nat) < sizeLine := by decide
    obtain ⟨tt, eT⟩ := eT
    obtain ⟨tl, eL⟩ := eL
    refine ⟨_, pss_one (ps_ret (pe_lc (own := [("line", 1)]) (g := gName 1) (tt := tYes) rfl nd (pi_list (pe_split (pv 0) (pe_glob (v := .str lineS) rfl eL ⟨_, rfl⟩))) (blkOk_by (own := [("line", 1)]) (N := ["text", "line"]) (sc := defScope s_rows_of) (by decide +kernel))
        (fun _ _ _ _ _ => pg_name (i := 1) nd rfl (Or.inl rfl)) (fun _ _ _ _ _ => pts_nil) (fun s1 H1 C1 cl1 fp1 => pe_callTy (T := "tuple") (r := rTupT K) call_tuple_of (by rfl) T.tuple (by decide +kernel) (pa_cons (pe_split (to := tVar 1) (te := tC (.str tabS)) (pv 1) (pe_glob (v := .str tabS) (by rfl) eT ⟨_, rfl⟩)) pa_nil)))), ?_⟩
    have hlen : (Txt.split z lineS).length ≤ 1000002 := Nat.le_trans (PyProof.Rows.split_le z _) (by omega)
    refine ⟨_, rfl, ⟨_, rfl⟩, _, _, rfl, rfl, by decide +kernel, by omega, fun p np => ?_⟩
    have x1 := Ex.laid (o := .lst ((Txt.split z lineS).map V.str)) hT np
    have hp1 : upd H p (.lst ((Txt.split z lineS).map V.str)) p = some (.lst (sV (Txt.split z lineS))) := upd_same
    generalize upd H p (.lst ((Txt.split z lineS).map V.str)) = H1 at x1 hp1 ⊢
    refine ⟨p, rfl, ⟨_, SqL.of hp1⟩, fun D nD => lc_list (xs := sV (Txt.split z lineS)) (fun i H' => Ex cs H1 H' ∧ ∃ ps : List Addr, H' D = some (.lst (ps.map V.ref)) ∧ ps.length = i ∧ ∀ (j : Nat) (q : Addr) (z' : Str), ps[j]? = some q → (Txt.split z lineS)[j]? = some z' → H' q = some (.tup (sV (Txt.split z' tabS))))
      ⟨Ex.laid x1.tab nD, [], upd_same, rfl, fun j q z h => by cases h⟩ (fun i H' _ x => x.1.sqL (SqL.of hp1)) ?_ ?_⟩
    · rintro i v H4 hv ⟨x4, ps, hD4, hpl, hps⟩
      obtain ⟨y, hy, rfl⟩ := get_map hv
      have hi := (List.getElem?_eq_some_iff.mp hy).1
      have hyl := split_pieceL (by rw [cl_lineS]; decide) kind_line (List.mem_of_getElem? hy)
      refine ⟨rfl, _, rfl, ⟨_, rfl⟩, _, _, rfl, rfl, by decide +kernel, by omega, fun u nu => ⟨u, _, rfl, .inl ⟨SqL.of upd_same, fun t nt => ?_⟩⟩⟩
      have x5 := x4.trans (Ex.laid (o := .lst ((Txt.split y tabS).map V.str)) x4.tab nu)
      have x6 := x5.trans (Ex.laid (o := .tup ((Txt.split y tabS).map V.str)) x5.tab nt)
      have x46 := (Ex.laid (o := .lst ((Txt.split y tabS).map V.str)) x4.tab nu).trans (Ex.laid (o := .tup ((Txt.split y tabS).map V.str)) x5.tab nt)
      have ht : upd (upd H4 u (.lst ((Txt.split y tabS).map V.str))) t (.tup ((Txt.split y tabS).map V.str)) t = some (.tup (sV (Txt.split y tabS))) := upd_same
      have nt4 : H4 t = none := (Ex.laid (o := .lst ((Txt.split y tabS).map V.str)) x4.tab nu).old _ nt
      generalize upd (upd H4 u (.lst ((Txt.split y tabS).map V.str))) t (.tup ((Txt.split y tabS).map V.str)) = H6 at x6 x46 ht ⊢
      have hD6 := x46.lst hD4
      have nDt : D ≠ t := fun e => by rw [e, nt4] at hD4; cases hD4
      refine ⟨_, hD6, by rw [List.length_map]; omega, ex_new x1.tab x6 nD, ps ++ [t], ?_, by rw [List.length_append, hpl]; rfl, fun j q z2 h1 h2 => ?_⟩
      · rw [upd_same, List.map_append]; rfl
      · by_cases hj : j < ps.length
        · rw [List.getElem?_append_left hj] at h1
          have h0 := x46.tup (hps j q z2 h1 h2)
          rw [upd_ne (fun e => by rw [e, hD6] at h0; cases h0)]
          exact h0
        · have hl2 := (List.getElem?_eq_some_iff.mp h1).1
          rw [List.length_append, List.length_singleton] at hl2
          have ej : j = i := by omega
          subst ej
          rw [List.getElem?_append_right (by omega), hpl, Nat.sub_self] at h1
          cases h1
          rw [hy] at h2
          cases h2
          rw [upd_ne nDt.symm]
          exact ht
    · rintro H4 ⟨x4, ps, hD4, hpl, hps⟩
      rw [List.length_map] at hpl
      refine k D ps H4 (x1.trans x4) (x1.old _ nD) hD4 ⟨by unfold rowsT; rw [List.length_map]; exact hpl, fun i q z2 h1 h2 => ?_⟩
      unfold rowsT at h2
      obtain ⟨l, hl, rfl⟩ := get_map h2
      exact hps i q l h1 hl
/-! ### written -/
def spWrit (K : PySem.W.Frag) (cs : List (Addr × Addr)) : Sp := fun vs H Q _ => ∃ (a : Addr) (as : List Addr) (rows : List (List Str)), vs = [.ref a] ∧ Tabs cs H ∧ PageAt K H a as rows ∧ PgOk rows ∧ ∀ H', Ex cs H H' → Q (.str (pageT rows)) H'
theorem sumLeT (m : Nat) : ∀ (ys : List Str), (∀ y ∈ ys, y.length ≤ m) → (ys.map (·.length)).sum ≤ ys.length * m
  | [], _ => Nat.zero_le _
  | y :: ys, h => by
    have h1 := h y (by simp)
    have h2 := sumLeT m ys fun x hx => h x (by simp [hx])
    rw [List.map_cons, List.sum_cons, List.length_cons, Nat.add_mul]
    omega
theorem sc_writ : FnScope ["page", "row"] ["page"] (defScope s_written) := ⟨rfl, rfl, rfl, by decide +kernel, rfl, by decide +kernel, by decide +kernel⟩
theorem ok_writ {f g1 : Addr} {fd fd1 : FuncData} (eT : ∃ t, mg "TAB" = some (.str tabS t)) (eL : ∃ t, mg "LINE_END" = some (.str lineS t)) (F : Fun K "written" "written" s_written f fd)
    (G1 : FnOk P w K mg base CX0 11 g1 fd1 ["page"] (spCheck K cs)) (k1 : PySem.W.keepIn K (.ref g1) = true) (b1 : Binds K fd1 ["page"] []) (m1 : mg "check_page" = some (.ref g1)) : FnOk P w K mg base CX0 12 f fd ["page"] (spWrit K cs) := by
  refine F.ok sc_writ (fun vs H Q E h => ?_) (fun cdv A outer s H vs Q E hr h => ?_)
  · obtain ⟨a, as, rows, rfl, _⟩ := h
    rfl
  · obtain ⟨a, as, rows, rfl, hT, hP, hO, k⟩ := h
    have nd := sc_writ.nd
    obtain ⟨tt, eT⟩ := eT
    obtain ⟨tl, eL⟩ := eL
    have szl : (1000 : Nat) < sizeLine := by decide
    refine ⟨_, pss_cons (ps_expr (pe_call G1 hr (by rfl) m1 k1 b1 .nil pass0 (pa_cons (pv 0) pa_nil))) (pss_one (ps_ret (pe_join (pe_glob (v := .str lineS) rfl eL ⟨_, rfl⟩)
      (pe_lc (own := [("row", 1)]) (g := gName 1) (tt := tYes) rfl nd (pi_list (pv 0)) (blkOk_by (own := [("row", 1)]) (N := ["page", "row"]) (sc := defScope s_written) (by decide +kernel)) (fun _ _ _ _ _ => pg_name (i := 1) nd rfl (Or.inl rfl)) (fun _ _ _ _ _ => pts_nil)
        (fun s1 H1 C1 cl1 fp1 => show PE _ _ (tM1 (rJoin K) (tC (.str tabS)) (tVar 1)) from pe_join (pe_glob (v := .str tabS) (by rfl) eT ⟨_, rfl⟩) (pv 1)))))), ?_⟩
    have hrl : ∀ r ∈ rows, r.length ≤ 6 ∧ ∀ z ∈ r, z.length ≤ 10 := fun r hr => ⟨(hO.rows r hr).2, fun z hz => ((hO.rows r hr).3 z hz).1⟩
    have hl := hO.len
    refine ⟨_, rfl, a, as, rows, rfl, hT, hP, hO, fun H1 x1 => ⟨⟨_, rfl⟩, _, rfl, a, rfl, ⟨_, x1.sqL hP.lst⟩, fun D nD => lc_list (xs := as.map V.ref) (fun i H' => Ex cs H1 H' ∧ H' D = some (.lst (sV ((rows.map rowT).take i))))
      ⟨Ex.laid x1.tab nD, upd_same⟩ (fun i H' _ x => x.1.sqL (x1.sqL hP.lst)) ?_ ?_⟩⟩
    · rintro i v H4 hv ⟨x4, hD4⟩
      obtain ⟨q, hq, rfl⟩ := get_map hv
      have hi := (List.getElem?_eq_some_iff.mp hq).1
      obtain ⟨r, hr2⟩ := getP (xs := rows) (i := i) (by rw [← hP.len]; exact hi)
      obtain ⟨l6, l10⟩ := hrl r (List.mem_of_getElem? hr2)
      have hs := sumLeT 10 r l10
      have e1 : tabS.length = 1 := by decide +kernel
      refine ⟨rfl, ⟨_, rfl⟩, _, rfl, _, q, r, rfl, rfl, .inr ((x1.trans x4).sqT (hP.row i q r hq hr2)), by rw [e1]; omega, _, hD4, ?_, ex_new x1.tab x4 nD, ?_⟩
      · rw [List.length_map, List.length_take]; rw [List.length_map]; have := hP.len; omega
      · have e : (rows.map rowT)[i]? = some (rowT r) := by
          rw [List.getElem?_map, hr2]
          rfl
        rw [upd_same, List.take_add_one, e]
        simp [sV]
        rfl
    · rintro H4 ⟨x4, hD4⟩
      have e2 : (rows.map rowT).take (as.map V.ref).length = rows.map rowT := List.take_of_length_le (by rw [List.length_map, List.length_map, hP.len]; exact Nat.le_refl _)
      rw [e2] at hD4
      have hs := sumLeT 66 (rows.map rowT) fun y hy => by
        obtain ⟨r, hr, rfl⟩ := List.mem_map.mp hy
        exact rowT_len (hO.rows r hr)
      rw [List.length_map] at hs
      have e1 : lineS.length = 1 := by decide +kernel
      exact ⟨_, D, rows.map rowT, rfl, rfl, .inl (SqL.of hD4), by rw [e1, List.length_map]; omega, k H4 (x1.trans x4)⟩
end
end TG

namespace TG
open PySem PySem.Spec PyProof.Rows L2 Gx
/-! ### places of this text -/
abbrev nTable : Nat := 33
abbrev s_marks_there : Stmt := top 35
abbrev s_check_mark : Stmt := top 34
abbrev s_those_there : Stmt := top 36
abbrev s_text_of : Stmt := top 37
abbrev s_first_there : Stmt := top 38
def clsB : Stmt → List Stmt
  | .ClassDef _ _ _ b _ _ _ _ _ _ _ => b
  | _ => []
def mth (c i : Nat) : Stmt := (clsB (top c)).getD i (.Pass ⟨0, 0, 0, 0⟩)
/-! ### all but some stays -/
def KM (A : Addr → Prop) (H H' : Hp) : Prop := ∀ c o, H c = some o → (∀ ps, o ≠ .tbl ps) → ¬ A c → H' c = some o
/-- no table, or none of these -/
def NT (cs : List (Addr × Addr)) (c : Addr) (o : HO) : Prop := (∀ ps, o ≠ .tbl ps) ∨ ∀ p ∈ cs, p.2 ≠ c
/-- as KM, other tables stay too -/
def KN (cs : List (Addr × Addr)) (A : Addr → Prop) (H H' : Hp) : Prop := ∀ c o, H c = some o → NT cs c o → ¬ A c → H' c = some o
def Mob (H : Hp) (A : Addr → Prop) : Prop := ∀ c, A c → (∃ us, H c = some (.lst us)) ∨ (∃ C dx fs, H c = some (.ins C dx fs))
section
variable {K : PySem.W.Frag} {A B : Addr → Prop} {H H1 H' : Hp}
theorem KM.of (x : LamX.ExtN H H') : KM A H H' := fun c o h n _ => x c o h n
theorem KM.tr (x : KM A H H1) (y : KM A H1 H') : KM A H H' := fun c o h n m => y c o (x c o h n m) n m
theorem KM.mono (x : KM A H H') (h : ∀ c, A c → B c) : KM B H H' := fun c o e n m => x c o e n fun z => m (h c z)
theorem sqT_km {t : Addr} {xs : List V} (x : KM A H H') (m : Mob H A) (h : SqT K H t xs) : SqT K H' t xs := by
  rcases h with (h | ⟨u, h⟩) | h
  · refine .inl (.inl (x _ _ h (fun ps z => by cases z) fun z => ?_))
    rcases m _ z with ⟨us, e⟩ | ⟨C, dx, fs, e⟩ <;> rw [e] at h <;> cases h
  · refine .inl (.inr ⟨u, x _ _ h (fun ps z => by cases z) fun z => ?_⟩)
    rcases m _ z with ⟨us, e⟩ | ⟨C, dx, fs, e⟩ <;> rw [e] at h <;> cases h
  · exact .inr h
theorem tup_km {t : Addr} {xs : List V} (x : KM A H H') (m : Mob H A) (h : H t = some (.tup xs)) : H' t = some (.tup xs) :=
  x _ _ h (fun ps z => by cases z) fun z => by
    rcases m _ z with ⟨us, e⟩ | ⟨C, dx, fs, e⟩ <;> rw [e] at h <;> cases h
theorem upd_km {a : Addr} {o : HO} : KM (fun c => c = a) H (upd H a o) := fun c u h _ n => by rw [upd_ne n]; exact h
theorem same_ex {cs : List (Addr × Addr)} (x : Same H H') (t : Tabs cs H) : Ex cs H H' :=
  ⟨fun b o h _ => x b o h, fun p hp => by
    obtain ⟨ps, h1, h2⟩ := t p hp
    exact ⟨ps, x _ _ h1, h2⟩, fun b h => same_old x h, fun b o h _ => x b o h⟩
theorem _root_.Gx.Ex.any {cs : List (Addr × Addr)} (x : Ex cs H H') {c : Addr} {o : HO} (h : H c = some o) (n : NT cs c o) : H' c = some o := by
  rcases n with n | n
  · exact x.ext _ _ h n
  · exact x.oth _ _ h n
theorem KN.w {cs : List (Addr × Addr)} (x : KN cs A H H') : KM A H H' := fun c o h n m => x c o h (.inl n) m
theorem KN.same {cs : List (Addr × Addr)} (x : Same H H') : KN cs A H H' := fun c o h _ _ => x c o h
theorem KN.tr {cs : List (Addr × Addr)} (x : KN cs A H H1) (y : KN cs A H1 H') : KN cs A H H' := fun c o h n m => y c o (x c o h n m) n m
end
/-! ### marks and deeds -/
abbrev Deed := Nat × Str × Nat × Bool
def dV (d : Deed) : List V := [.int (d.1 : Nat), .str d.2.1, .int (d.2.2.1 : Nat), .bl d.2.2.2]
def nV (l : List Nat) : List V := l.map fun n => V.int (n : Nat)
def bV (l : List Bool) : List V := l.map V.bl
structure DeedsAt (H : Hp) (dl : Addr) (da : List Addr) (ds : List Deed) : Prop where
  lst : H dl = some (.lst (da.map V.ref))
  len : da.length = ds.length
  at_ : ∀ (i : Nat) (t : Addr) (d : Deed), da[i]? = some t → ds[i]? = some d → H t = some (.tup (dV d))
theorem DeedsAt.same {H H' : Hp} {dl : Addr} {da : List Addr} {ds : List Deed} (o : DeedsAt H dl da ds) (x : Same H H') : DeedsAt H' dl da ds :=
  ⟨x _ _ o.lst, o.len, fun i t d h1 h2 => x _ _ (o.at_ i t d h1 h2)⟩
/-- what a deed makes of what is there -/
def markR (th : List Bool) (d : Deed) : List Bool := if d.2.2.2 = decide (d.2.1 = "") then th.set d.2.2.1 false else th
def thereR (many : Nat) (ds : List Deed) : List Bool := ds.foldl markR (List.replicate many true)
theorem markR_len (th : List Bool) (d : Deed) : (markR th d).length = th.length := by
  unfold markR
  split
  · rw [List.length_set]
  · rfl
theorem thereR_len (many : Nat) (ds : List Deed) : (thereR many ds).length = many := by
  have : ∀ (ds : List Deed) (th : List Bool), (ds.foldl markR th).length = th.length := by
    intro ds
    induction ds with
    | nil => intro th; rfl
    | cons d ds ih => intro th; rw [List.foldl_cons, ih, markR_len]
  unfold thereR
  rw [this, List.length_replicate]
def thoseR (order : List Nat) (there : List Bool) : List Nat := order.filter fun m => there.getD m false
def textR (signs : List Str) (marks : List Nat) : Str := Txt.join "" (marks.map fun m => signs.getD m "")
def firstR (order : List Nat) (there : List Bool) (spot : Nat) : Nat := ((order.drop (order.idxOf spot)).find? fun m => there.getD m false).getD 0
theorem nV_get {l : List Nat} {i m : Nat} (h : l[i]? = some m) : (nV l)[i]? = some (.int (m : Nat)) := by unfold nV; rw [List.getElem?_map, h]; rfl
theorem bV_get {l : List Bool} {i : Nat} (h : i < l.length) : (bV l)[i]? = some (.bl (l.getD i false)) := by
  unfold bV
  rw [List.getElem?_map, List.getElem?_eq_getElem h, List.getD_eq_getElem?_getD, List.getElem?_eq_getElem h]
  rfl
theorem ixN_nat {n j : Nat} (h : j < n) : ixN n ((j : Nat) : Int) = some j := by
  unfold ixN
  have e : ¬ ((j : Int) < 0) := by omega
  simp [e, h]
end TG

namespace TG
open PySem PySem.Spec PyProof.Rows L2 NdefX GenW Gx Lv
/-! ### a text's rows, sign by sign -/
def spl1 (s : Nat) : List Nat → List Nat → List (List Nat)
  | acc, [] => [acc]
  | acc, c :: l => if c = s then acc :: spl1 s [] l else spl1 s (acc ++ [c]) l
theorem spl_one (s : Nat) : ∀ (l acc : List Nat), TL.spl [s] 0 acc l = spl1 s acc l
  | [], acc => rfl
  | c :: r, acc => by
    have hp : TL.pre [s] (c :: r) = decide (c = s) := by
      show (List.take 1 (c :: r) == [s]) = _
      by_cases h : c = s
      · subst h; simp
      · simp [h]
    unfold TL.spl spl1
    rw [hp]
    by_cases h : c = s
    · rw [if_pos (decide_eq_true h), if_pos h]
      rw [← spl_one s r []]
      rfl
    · rw [if_neg (by rw [decide_eq_false h]; exact Bool.false_ne_true), if_neg h]
      exact spl_one s r _
theorem spl1_ne (s : Nat) : ∀ (l acc : List Nat), spl1 s acc l ≠ []
  | [], acc => by simp [spl1]
  | c :: r, acc => by
    unfold spl1
    split
    · simp
    · exact spl1_ne s r _
theorem spl1_mem (s : Nat) : ∀ (l acc : List Nat) (p : List Nat), p ∈ spl1 s acc l → s ∉ acc → s ∉ p ∧ ∀ c ∈ p, c ∈ acc ∨ c ∈ l
  | [], acc, p, h, ha => by
    unfold spl1 at h
    rw [List.mem_singleton] at h
    subst h
    exact ⟨ha, fun c hc => .inl hc⟩
  | c :: r, acc, p, h, ha => by
    unfold spl1 at h
    split at h
    · rename_i hcs
      rcases List.mem_cons.mp h with rfl | h
      · exact ⟨ha, fun d hd => .inl hd⟩
      · obtain ⟨h1, h2⟩ := spl1_mem s r [] p h (by simp)
        exact ⟨h1, fun d hd => by
          rcases h2 d hd with z | z
          · cases z
          · exact .inr (List.mem_cons_of_mem _ z)⟩
    · rename_i hcs
      obtain ⟨h1, h2⟩ := spl1_mem s r (acc ++ [c]) p h (fun z => by
        rcases List.mem_append.mp z with z | z
        · exact ha z
        · exact hcs (List.mem_singleton.mp z).symm)
      exact ⟨h1, fun d hd => by
        rcases h2 d hd with z | z
        · rcases List.mem_append.mp z with z | z
          · exact .inl z
          · rw [List.mem_singleton.mp z]; exact .inr List.mem_cons_self
        · exact .inr (List.mem_cons_of_mem _ z)⟩
theorem spl1_end (s : Nat) : ∀ (l acc : List Nat), spl1 s acc (l ++ [s]) = spl1 s acc l ++ [[]]
  | [], acc => by simp [spl1]
  | c :: r, acc => by
    show spl1 s acc (c :: (r ++ [s])) = _
    unfold spl1
    split
    · rw [spl1_end s r []]; rfl
    · exact spl1_end s r _
theorem spl1_more (s c : Nat) (hc : c ≠ s) : ∀ (l acc : List Nat) (R : List (List Nat)) (C : List Nat), spl1 s acc l = R ++ [C] → spl1 s acc (l ++ [c]) = R ++ [C ++ [c]]
  | [], acc, R, C, h => by
    unfold spl1 at h
    have e : R = [] ∧ C = acc := by
      cases R with
      | nil => injection h with h _; exact ⟨rfl, h.symm⟩
      | cons x R => injection h with _ h; cases R <;> cases h
    obtain ⟨rfl, rfl⟩ := e
    simp [spl1, hc]
  | d :: r, acc, R, C, h => by
    show spl1 s acc (d :: (r ++ [c])) = _
    unfold spl1 at h ⊢
    split
    · rename_i hd
      rw [if_pos hd] at h
      cases R with
      | nil =>
        injection h with _ h
        exact absurd h (spl1_ne s r [])
      | cons x R =>
        injection h with h1 h2
        rw [spl1_more s c hc r [] R C h2, h1]
        rfl
    · rename_i hd
      rw [if_neg hd] at h
      exact spl1_more s c hc r _ R C h
/-- what is gone on with: cells, a cell, and the signs to come, the last of which is a line's end -/
def goR : List (List Nat) → List Nat → List Nat → List (List (List Nat))
  | _, _, [] => []
  | R, C, c :: l => if c = 9 then goR (R ++ [C]) [] l else if c = 10 then (R ++ [C]) :: goR [] [] l else goR R (C ++ [c]) l
theorem go_split : ∀ (l acc : List Nat) (R : List (List Nat)) (C : List Nat), spl1 9 [] acc = R ++ [C] → (spl1 10 acc l).map (spl1 9 []) = goR R C (l ++ [10])
  | [], acc, R, C, h => by
    show [spl1 9 [] acc] = goR R C [10]
    rw [h]
    rfl
  | c :: l, acc, R, C, h => by
    show (spl1 10 acc (c :: l)).map (spl1 9 []) = goR R C (c :: (l ++ [10]))
    unfold spl1 goR
    by_cases h9 : c = 9
    · subst h9
      rw [if_neg (by decide), if_pos rfl]
      exact go_split l _ _ _ (by rw [spl1_end, h])
    · rw [if_neg h9]
      by_cases h10 : c = 10
      · rw [if_pos h10, if_pos h10, List.map_cons, h, go_split l [] [] [] rfl]
      · rw [if_neg h10, if_neg h10]
        exact go_split l _ _ _ (spl1_more 9 c h9 acc [] R C h)
theorem rowsT_cl (z : Str) : (rowsT z).map (List.map cl) = goR [] [] (cl z ++ [10]) := by
  have e1 := split_clL z lineS (by rw [cl_lineS]; decide) kind_line
  rw [cl_lineS, spl_one] at e1
  rw [← go_split (cl z) [] [] [] rfl, ← e1, List.map_map]
  unfold rowsT
  rw [List.map_map]
  apply List.map_congr_left
  intro p _
  have e2 := split_clL p tabS (by rw [cl_tabS]; decide) kind_tab
  rw [cl_tabS, spl_one] at e2
  exact e2
/-- signs, tabs and line ends -/
def TxtSg (z : Str) : Prop := ∀ c ∈ cl z, SgOk c ∨ c = 9 ∨ c = 10
theorem rowsT_sg {z : Str} (h : TxtSg z) : ∀ r ∈ rowsT z, ∀ x ∈ r, (∀ c ∈ cl x, SgOk c) ∧ x.length ≤ z.length := by
  intro r hr x hx
  unfold rowsT at hr
  obtain ⟨p, hp, rfl⟩ := List.mem_map.mp hr
  have l1 := split_pieceL (by rw [cl_lineS]; decide) kind_line hp
  have l2 := split_pieceL (by rw [cl_tabS]; decide) kind_tab hx
  have e1 := split_clL z lineS (by rw [cl_lineS]; decide) kind_line
  rw [cl_lineS, spl_one] at e1
  have e2 := split_clL p tabS (by rw [cl_tabS]; decide) kind_tab
  rw [cl_tabS, spl_one] at e2
  have m1 : cl p ∈ spl1 10 [] (cl z) := by rw [← e1]; exact List.mem_map_of_mem hp
  have m2 : cl x ∈ spl1 9 [] (cl p) := by rw [← e2]; exact List.mem_map_of_mem hx
  obtain ⟨a1, a2⟩ := spl1_mem 10 _ _ _ m1 (by simp)
  obtain ⟨b1, b2⟩ := spl1_mem 9 _ _ _ m2 (by simp)
  refine ⟨fun c hc => ?_, by omega⟩
  rcases b2 c hc with q | q
  · cases q
  rcases a2 c q with q2 | q2
  · cases q2
  rcases h c q2 with q3 | q3 | q3
  · exact q3
  · rw [q3] at hc; exact absurd hc b1
  · rw [q3] at q; exact absurd q a1
theorem rowsT_pos (z : Str) : 1 ≤ (rowsT z).length ∧ ∀ r ∈ rowsT z, 1 ≤ r.length := by
  have ne : ∀ (x y : Str), cl y ≠ [] → Builtin.Str.strKind y = 1 → (∃ s, cl y = [s]) → 1 ≤ (Txt.split x y).length := fun x y h0 hk ⟨s, hs⟩ => by
    have e := split_clL x y h0 hk
    rw [hs, spl_one] at e
    have h := spl1_ne s (cl x) []
    rw [← e] at h
    cases q : Txt.split x y with
    | nil => rw [q] at h; exact absurd rfl h
    | cons a b => simp
  refine ⟨?_, fun r hr => ?_⟩
  · unfold rowsT
    rw [List.length_map]
    exact ne z lineS (by rw [cl_lineS]; decide) kind_line ⟨10, cl_lineS⟩
  · unfold rowsT at hr
    obtain ⟨p, _, rfl⟩ := List.mem_map.mp hr
    exact ne p tabS (by rw [cl_tabS]; decide) kind_tab ⟨9, cl_tabS⟩
theorem rowsT_len {z : Str} (h : z.length ≤ 1000000) : (rowsT z).length ≤ 1000002 ∧ ∀ r ∈ rowsT z, r.length ≤ 1000002 := by
  refine ⟨?_, fun r hr => ?_⟩
  · unfold rowsT
    rw [List.length_map]
    exact Nat.le_trans (PyProof.Rows.split_le z _) (by omega)
  · unfold rowsT at hr
    obtain ⟨p, hp, rfl⟩ := List.mem_map.mp hr
    have l1 := split_pieceL (by rw [cl_lineS]; decide) kind_line hp
    exact Nat.le_trans (PyProof.Rows.split_le p _) (by omega)
/-! ### which row can't be -/
def fitR (r : List Str) : Bool := decide (r.length ≤ 6) && r.all fun z => decide (z.length ≤ 10)
structure BadAt (rows : List (List Str)) (n : Nat) : Prop where
  lt : n < rows.length
  n30 : n ≤ 30
  bad : n = 30 ∨ ∃ r, rows[n]? = some r ∧ fitR r = false
  ok : ∀ i r, i < n → rows[i]? = some r → fitR r = true
def GoodR (rows : List (List Str)) : Prop := rows.length ≤ 30 ∧ ∀ r ∈ rows, fitR r = true
theorem good_or (rows : List (List Str)) : GoodR rows ∨ ∃ n, BadAt rows n := by
  have key : ∀ n, n ≤ rows.length → n ≤ 30 → (∃ m, BadAt rows m) ∨ ∀ i r, i < n → rows[i]? = some r → fitR r = true := by
    intro n
    induction n with
    | zero => exact fun _ _ => .inr fun i r h => absurd h (Nat.not_lt_zero _)
    | succ n ih =>
      intro h1 h2
      rcases ih (by omega) (by omega) with h | h
      · exact .inl h
      · obtain ⟨r, hr⟩ := getP (xs := rows) (i := n) (by omega)
        cases hf : fitR r with
        | false => exact .inl ⟨n, by omega, by omega, .inr ⟨r, hr, hf⟩, h⟩
        | true =>
          refine .inr fun i q hi hq => ?_
          by_cases e : i = n
          · subst e; rw [hr] at hq; cases hq; exact hf
          · exact h i q (by omega) hq
  by_cases hl : rows.length ≤ 30
  · rcases key rows.length (Nat.le_refl _) hl with h | h
    · exact .inr h
    · refine .inl ⟨hl, fun r hr => ?_⟩
      obtain ⟨i, hi, e⟩ := List.getElem_of_mem hr
      exact h i r hi (by rw [List.getElem?_eq_getElem hi, e])
  · rcases key 30 (by omega) (Nat.le_refl _) with h | h
    · exact .inr h
    · exact .inr ⟨30, by omega, Nat.le_refl _, .inl rfl, h⟩
theorem good_pg {z : Str} (h : TxtSg z) (g : GoodR (rowsT z)) : PgOk (rowsT z) := by
  refine ⟨(rowsT_pos z).1, g.1, fun r hr => ?_⟩
  have f := g.2 r hr
  unfold fitR at f
  rw [Bool.and_eq_true, List.all_eq_true] at f
  exact ⟨(rowsT_pos z).2 r hr, of_decide_eq_true f.1, fun x hx => ⟨of_decide_eq_true (f.2 x hx), (rowsT_sg h r hr x hx).1⟩⟩
end TG

namespace TG
open PySem PySem.Spec PyProof.Rows L2 NdefX GenW Gx Lv
/-! ### what is refused of a text -/
section
variable {P : Program} {w : World} {K : PySem.W.Frag} {mg : Str → Option Value} {base : Heap} {cs : List (Addr × Addr)}
def spText3 (cs : List (Addr × Addr)) : Sp := fun vs H Q _ => ∃ (z : Str) (m : Int), vs = [.str z, .int m] ∧ Tabs cs H ∧ z.length ≤ 1000000 ∧ (∀ c ∈ z.cps.toList, SgOk c) ∧ ∀ H', Ex cs H H' → Q (.bl (decide ((z.length : Int) ≤ m))) H'
theorem ok_text3 {f c Pt g : Addr} {fd fdg : FuncData} (T : Txt mg) (F : Fun K "is_text_of_signs" "is_text_of_signs" s_is_text f fd) (hc : fd.code = .ref c) (TB : GxR.TabB base mg c Pt) (hm : (c, Pt) ∈ cs)
    (G : FnOk P w K mg base CX0 1 g fdg ["sign"] spSg) (kp : PySem.W.keepIn K (.ref g) = true) (bd : Binds K fdg ["sign"] []) (mgg : mg "is_sign" = some (.ref g)) : FnOk P w K mg base CX0 5 f fd ["value", "most"] (spText3 cs) := by
  refine fun_okT F hc sc_text (fun vs H Q E h => ?_) (fun A outer s H vs Q E hr h => ?_)
  · obtain ⟨z, m, rfl, _⟩ := h
    rfl
  · obtain ⟨z, m, rfl, hT, h2, h3, k⟩ := h
    have szl : (10000000 : Nat) < sizeLine := by decide
    refine ⟨_, pss_one (ps_ret (pe_and (pe_callB call_isi (by rfl) T.isin (by decide +kernel) (pa_cons (pv 0) (pa_cons (pe_bltn (v := .ty "str") (by rfl) T.str (by decide +kernel) rfl) pa_nil)))
      (pe_and (pe_cmpR op_le (pe_callB call_len_str (by rfl) T.len PySem.boot_len (pa_cons (pv 0) pa_nil)) (pv 1) (nomark _))
        (pe_one (pe_allG (k := 1) (P := Pt) hr (by rfl) T.all TB rfl ⟨rfl, rfl, by decide +kernel, by decide +kernel, rfl, rfl⟩ (pi_str (pv 0)) (fun A' code s4 H4 fp hr' => pe_call G hr' (by rfl) mgg kp bd .nil pass0 (pa_cons (pv 0) pa_nil)) (fun _ => rfl)))))), ?_⟩
    by_cases h1 : (z.length : Int) ≤ m
    · rw [decide_eq_true h1] at k
      refine ⟨_, rfl, _, _, _, _, true, rfl, .ty _, .base (.str z), kit_ty (by decide +kernel), true, rfl, iteT ⟨_, rfl, z, rfl, by omega, _, rfl, _, _, rfl, rfl, true, dT h1, iteT ⟨_, rfl, z, rfl, hT _ hm, fun H2 hH2 => ?_⟩⟩⟩
      refine all_by (w := walk_str (z := z)) (fun _ => true) (fun _ H' => H' = H2) rfl (fun _ _ _ _ => trivial) (fun i v H3 H4 hi e y Z hZ => ?_) (fun H3 e _ => ?_) (fun i H3 _ e _ => by cases e)
      · obtain ⟨rfl, c, hc, rfl⟩ := y
        subst e
        refine ⟨_, rfl, c, rfl, h3 c ?_, hZ _ rfl⟩
        exact List.mem_of_getElem? (by rw [Array.getElem?_toList]; exact hc)
      · subst e
        exact k _ (Ex.tabbed hT hm hH2)
    · rw [decide_eq_false h1] at k
      exact ⟨_, rfl, _, _, _, _, true, rfl, .ty _, .base (.str z), kit_ty (by decide +kernel), true, rfl, iteT ⟨_, rfl, z, rfl, by omega, _, rfl, _, _, rfl, rfl, false, dF h1, iteF (k H (Ex.refl hT))⟩⟩
structure RowT (r : List Str) : Prop where
  pos : 1 ≤ r.length
  sg : ∀ z ∈ r, ∀ c ∈ cl z, SgOk c
  len : ∀ z ∈ r, z.length ≤ 1000000
def spRow3 (K : PySem.W.Frag) (cs : List (Addr × Addr)) : Sp := fun vs H Q _ => ∃ (a : Addr) (r : List Str), vs = [.ref a] ∧ Tabs cs H ∧ SqT K H a (sV r) ∧ RowT r ∧ ∀ H', Ex cs H H' → Q (.bl (fitR r)) H'
theorem ok_row3 {f c Pt g : Addr} {fd fdg : FuncData} (T : Txt mg) (N : Consts mg) (F : Fun K "is_row" "is_row" s_is_row f fd) (hc : fd.code = .ref c) (TB : GxR.TabB base mg c Pt) (hm : (c, Pt) ∈ cs)
    (W : FnOk P w K mg base CX0 5 g fdg ["value", "most"] (spText3 cs)) (kp : PySem.W.keepIn K (.ref g) = true) (bd : Binds K fdg ["value", "most"] []) (mgg : mg "is_text_of_signs" = some (.ref g)) : FnOk P w K mg base CX0 9 f fd ["value"] (spRow3 K cs) := by
  refine fun_okT F hc sc_row (fun vs H Q E h => ?_) (fun A outer s H vs Q E hr h => ?_)
  · obtain ⟨a, r, rfl, _⟩ := h
    rfl
  · obtain ⟨a, r, rfl, hT, hS, hL, k⟩ := h
    obtain ⟨t1, e1⟩ := N.cells
    obtain ⟨t2, e2⟩ := N.signs
    refine ⟨_, pss_cons (ps_if (PW.pt (pw_or (pt_not (pt_val (pe_callB call_isi (by rfl) T.isin (by decide +kernel) (pa_cons (pv 0) (pa_cons (pe_bltn (v := .ty "tuple") (by rfl) T.tuple (by decide +kernel) rfl) pa_nil)))))
        (pw_or1 (pt_not (pt_chain op_le op_le pe_int (pe_callB call_len_seq (by rfl) T.len PySem.boot_len (pa_cons (pv 0) pa_nil)) (pe_glob (v := .int 6) rfl e1 ⟨_, rfl⟩)))))) (pss_one (ps_ret pe_bl)) pss_nil)
      (pss_one (ps_ret (pe_allG (k := 5) (P := Pt) hr (by rfl) T.all TB rfl ⟨rfl, rfl, by decide +kernel, by decide +kernel, rfl, rfl⟩ (pi_tup (pv 0))
        (fun A' code s4 H4 fp hr' => pe_call W hr' (by rfl) mgg kp bd .nil pass0 (pa_cons (pv 0) (pa_cons (pe_glob (v := .int 10) rfl e2 ⟨_, rfl⟩) pa_nil))) (fun _ => rfl)))), ?_⟩
    have hl : (sV r).length = r.length := List.length_map ..
    have hpos := hL.pos
    refine ⟨_, rfl, _, _, _, _, true, rfl, .ty _, ty_tup hS, kit_ty (by decide +kernel), true, rfl, iteF ⟨_, rfl, a, _, rfl, .inr hS, 1, _, rfl, rfl, true, dT (by omega), iteT ⟨_, 6, rfl, rfl, ?_⟩⟩⟩
    by_cases h6 : r.length ≤ 6
    · refine ⟨true, dT (by omega), iteF ⟨_, rfl, a, rfl, ⟨_, hS⟩, hT _ hm, fun H2 hH2 => ?_⟩⟩
      have x2 := Ex.tabbed hT hm hH2
      have ef : fitR r = r.all fun z => decide (z.length ≤ 10) := by unfold fitR; rw [decide_eq_true h6, Bool.true_and]
      refine all_by (w := walk_tup (a := a) (xs := sV r)) (fun i => match r[i]? with | some z => decide (z.length ≤ 10) | none => true) (fun _ H' => Ex cs H H') x2 (fun i H' _ x => x.sqT hS) (fun i v H3 H4 hi x y Z hZ => ?_) (fun H3 x hall => ?_) (fun i H3 hi hff x => ?_)
      · obtain ⟨rfl, hv⟩ := y
        obtain ⟨z, hz, rfl⟩ := get_map hv
        have zm := List.mem_of_getElem? hz
        refine ⟨_, rfl, z, 10, rfl, x.tab, hL.len z zm, hL.sg z zm, fun H5 x5 => ?_⟩
        have := hZ _ (x.trans x5)
        rw [hz] at this
        have e : decide ((z.length : Int) ≤ 10) = decide (z.length ≤ 10) := by
          by_cases q : z.length ≤ 10
          · rw [decide_eq_true q, decide_eq_true (by omega)]
          · rw [decide_eq_false q, decide_eq_false (by omega)]
        rw [e]
        exact this
      · have e : fitR r = true := by
          rw [ef, List.all_eq_true]
          intro z hz
          obtain ⟨i, hi, e⟩ := List.getElem_of_mem hz
          have q := hall i (by omega)
          rw [List.getElem?_eq_getElem hi, e] at q
          exact q
        rw [← e]
        exact k _ x
      · have e : fitR r = false := by
          rw [ef, Bool.eq_false_iff]
          intro q
          rw [List.all_eq_true] at q
          have hi2 : i < r.length := by omega
          rw [List.getElem?_eq_getElem hi2] at hff
          have := q _ (List.getElem_mem hi2)
          rw [show decide (r[i].length ≤ 10) = false from hff] at this
          cases this
        rw [← e]
        exact k _ x
    · refine ⟨false, dF (by omega), iteT ?_⟩
      have e : fitR r = false := by unfold fitR; rw [decide_eq_false h6, Bool.false_and]
      rw [← e]
      exact k _ (Ex.refl hT)
def spMisB (K : PySem.W.Frag) (cs : List (Addr × Addr)) : Sp := fun vs H Q _ => ∃ (a : Addr) (as : List Addr) (rows : List (List Str)) (n : Nat), vs = [.ref a] ∧ Tabs cs H ∧ PageAt K H a as rows ∧ (∀ r ∈ rows, RowT r) ∧ BadAt rows n ∧ ∀ H', Ex cs H H' → Q (.int (n : Nat)) H'
theorem ok_misB {f g : Addr} {fd fdg : FuncData} (T : Txt mg) (N : Consts mg) (F : Fun K "first_misfit" "first_misfit" s_misfit f fd)
    (G : FnOk P w K mg base CX0 9 g fdg ["value"] (spRow3 K cs)) (kp : PySem.W.keepIn K (.ref g) = true) (bd : Binds K fdg ["value"] []) (mgg : mg "is_row" = some (.ref g)) : FnOk P w K mg base CX0 10 f fd ["rows"] (spMisB K cs) := by
  refine F.ok sc_misfit (fun vs H Q E h => ?_) (fun cdv A outer s H vs Q E hr h => ?_)
  · obtain ⟨a, as, rows, n, rfl, _⟩ := h
    rfl
  · obtain ⟨a, as, rows, n, rfl, hT, hP, hO, hB, k⟩ := h
    have nd := sc_misfit.nd
    obtain ⟨t1, e1⟩ := N.rows
    refine ⟨_, pss_cons (ps_for PassesOwn.never rfl (pi_enum (by rfl) T.enum (pa_cons (pv 0) pa_nil)) (pg_tup rfl (pgs_cons (pg_name (i := 1) nd rfl (.inl rfl)) (pgs_cons (pg_name (i := 2) nd rfl (.inl rfl)) pgs_nil)))
        (pss_one (ps_if (PW.pt (pw_or (pt_cmpR op_eq (pv 1) (pe_glob (v := .int 30) rfl e1 ⟨_, rfl⟩) (nomark _)) (pw_or1 (pt_not (pt_val (pe_call G hr (by rfl) mgg kp bd .nil pass0 (pa_cons (pv 2) pa_nil))))))) (pss_one (ps_ret (pv 1))) pss_nil)))
      (pss_one ps_never), ?_⟩
    have hl : (as.map V.ref).length = rows.length := by rw [List.length_map]; exact hP.len
    have hlt := hB.lt
    refine ⟨_, rfl, a, _, rfl, hP.lst, for_it (walk_enum (xs := as.map V.ref)) (fun i σ H' => i ≤ n ∧ Ex cs H H' ∧ σ[0]? = some (some (.ref a)) ∧ σ.length = 3) ⟨Nat.zero_le _, Ex.refl hT, rfl, rfl⟩ (fun i σ H' _ x => x.2.1.sqL hP.lst) ?_ ?_⟩
    · rintro i x σ H3 H4 hi ⟨hin, x3, s0, sl⟩ ⟨Tp, v, u, rfl, hn, rfl, hv, hu⟩
      cases hv
      obtain ⟨p, hp, rfl⟩ := get_map hu
      have hi2 : i < rows.length := by omega
      obtain ⟨r, hr2⟩ := getP hi2
      have xl := Ex.laid (o := .tup [.int (i : Nat), .ref p]) x3.tab hn
      refine ⟨Tp, _, rfl, .inl (.inl upd_same), rfl, _, _, rfl, _, _, rfl, rfl, ?_⟩
      have g1 : ((σ.set 1 (some (V.int (i : Nat)))).set 2 (some (V.ref p)))[1]? = some (some (V.int (i : Nat))) := by
        rw [List.getElem?_set_ne (by decide)]
        exact List.getElem?_set_self (by omega)
      have g2 : ((σ.set 1 (some (V.int (i : Nat)))).set 2 (some (V.ref p)))[2]? = some (some (V.ref p)) := List.getElem?_set_self (by rw [List.length_set]; omega)
      have n30 := hB.n30
      by_cases h30 : i = 30
      · have ein : i = n := by omega
        subst ein
        exact ⟨_, g1, rfl, true, dT (by rw [h30]; rfl), iteT (iteT ⟨_, g1, k _ (x3.trans xl)⟩)⟩
      · refine ⟨_, g1, rfl, false, dF (fun z => by injection z with z; omega), iteF ⟨_, g2, p, r, rfl, xl.tab, (x3.trans xl).sqT (hP.row i p r hp hr2), hO r (List.mem_of_getElem? hr2), fun H5 x5 => ⟨_, rfl, ?_⟩⟩⟩
        by_cases hlt2 : i < n
        · rw [hB.ok i r hlt2 hr2]
          refine iteF ⟨by omega, (x3.trans xl).trans x5, ?_, ?_⟩
          · rw [List.getElem?_set_ne (by decide), List.getElem?_set_ne (by decide)]; exact s0
          · rw [List.length_set, List.length_set]; exact sl
        · have ein : i = n := by omega
          subst ein
          rcases hB.bad with q | ⟨r2, h1, h2⟩
          · exact absurd q h30
          · rw [hr2] at h1
            cases h1
            rw [h2]
            exact iteT ⟨_, g1, k _ ((x3.trans xl).trans x5)⟩
    · rintro σ H' ⟨hin, _⟩
      omega
end
end TG

namespace TG
open PySem PySem.Spec PyProof.Rows L2 Gx
section
variable {P : Program} {w : World} {K : PySem.W.Frag} {mg : Str → Option Value} {base : Heap} {cs : List (Addr × Addr)}
/-! ### those_there -/
def spThose (K : PySem.W.Frag) : Sp := fun vs H Q _ => ∃ (ol tl : Addr) (order : List Nat) (there : List Bool), vs = [.ref ol, .ref tl] ∧ SqL K H ol (nV order) ∧ SqL K H tl (bV there) ∧ (∀ m ∈ order, m < there.length) ∧ order.length ≤ 10000 ∧
  ∀ (D : Addr), H D = none → Q (.ref D) (upd H D (.lst (nV (thoseR order there))))
theorem sc_those : FnScope ["order", "there", "mark"] ["order", "there"] (defScope s_those_there) := ⟨rfl, rfl, rfl, by decide +kernel, rfl, by decide +kernel, by decide +kernel⟩
theorem thoseR_take {order : List Nat} {there : List Bool} {i m : Nat} (h : order[i]? = some m) : thoseR (order.take (i + 1)) there = thoseR (order.take i) there ++ (if there.getD m false = true then [m] else []) := by
  unfold thoseR
  rw [List.take_add_one, h, List.filter_append]
  congr 1
  rw [Option.toList_some, List.filter_cons, List.filter_nil]
theorem ok_those {f : Addr} {fd : FuncData} (F : Fun K "those_there" "those_there" s_those_there f fd) : FnOk P w K mg base CX0 1 f fd ["order", "there"] (spThose K) := by
  refine F.ok sc_those (fun vs H Q E h => ?_) (fun cdv A outer s H vs Q E hr h => ?_)
  · obtain ⟨ol, tl, order, there, rfl, _⟩ := h
    rfl
  · obtain ⟨ol, tl, order, there, rfl, h1, h2, hm, hl, k⟩ := h
    have nd := sc_those.nd
    have szl : (10000 : Nat) < sizeLine := by decide
    refine ⟨_, pss_one (ps_ret (pe_lc (own := [("mark", 2)]) (g := gName 2) rfl nd (pi_list (pv 0)) (blkOk_by (own := [("mark", 2)]) (N := ["order", "there", "mark"]) (sc := defScope s_those_there) (by decide +kernel))
        (fun _ _ _ _ _ => pg_name (i := 2) nd rfl (Or.inl rfl)) (fun _ _ _ _ _ => pts_one (pt_val (pe_ix (r := rIxL K) ix_list (pv 1) (pv 2) (fun _ _ => rfl)))) (fun _ _ _ _ _ => pv 2))), ?_⟩
    refine ⟨_, rfl, ol, rfl, ⟨_, h1⟩, fun D nD => lc_list (xs := nV order) (fun i H' => H' = upd H D (.lst (nV (thoseR (order.take i) there)))) rfl (fun i H' _ x => by rw [x]; exact same_sqL (same_new nD) h1) ?_ ?_⟩
    · rintro i x H' hx rfl
      obtain ⟨m, hmm, rfl⟩ := get_map hx
      have lt := hm m (List.mem_of_getElem? hmm)
      refine ⟨rfl, _, rfl, _, rfl, tl, _, _, _, rfl, rfl, same_sqL (same_new nD) h2, atI_nat (bV_get lt), there.getD m false, rfl, ?_⟩
      rw [thoseR_take hmm]
      cases e : there.getD m false with
      | true =>
        refine iteT ⟨_, rfl, _, upd_same, ?_, ?_⟩
        · have : (thoseR (order.take i) there).length ≤ (order.take i).length := List.length_filter_le _ _
          rw [List.length_take] at this
          unfold nV
          rw [List.length_map]
          omega
        · rw [upd_upd]
          simp [nV]
      | false =>
        refine iteF ?_
        simp
    · rintro H' rfl
      have e : order.take (nV order).length = order := List.take_of_length_le (by unfold nV; rw [List.length_map]; exact Nat.le_refl _)
      rw [e]
      exact k D nD
/-! ### text_of -/
def spTextOf (K : PySem.W.Frag) : Sp := fun vs H Q _ => ∃ (sl ml : Addr) (signs : List Str) (marks : List Nat), vs = [.ref sl, .ref ml] ∧ SqL K H sl (sV signs) ∧ SqL K H ml (nV marks) ∧ (∀ m ∈ marks, m < signs.length) ∧ marks.length ≤ 10000 ∧ (∀ z ∈ signs, z.length ≤ 1) ∧
  ∀ (H' : Hp), Same H H' → Q (.str (textR signs marks)) H'
theorem sc_textof : FnScope ["signs", "marks", "mark"] ["signs", "marks"] (defScope s_text_of) := ⟨rfl, rfl, rfl, by decide +kernel, rfl, by decide +kernel, by decide +kernel⟩
theorem signs_get {signs : List Str} {m : Nat} (h : m < signs.length) : (sV signs)[m]? = some (.str (signs.getD m "")) := by
  unfold sV
  rw [List.getElem?_map, List.getElem?_eq_getElem h, List.getD_eq_getElem?_getD, List.getElem?_eq_getElem h]
  rfl
theorem sum_ones : ∀ (ys : List Str), (∀ y ∈ ys, y.length ≤ 1) → (ys.map (·.length)).sum ≤ ys.length
  | [], _ => Nat.zero_le _
  | y :: ys, h => by
    have h1 := h y (by simp)
    have h2 := sum_ones ys fun x hx => h x (by simp [hx])
    rw [List.map_cons, List.sum_cons, List.length_cons]
    omega
theorem ok_textof {f : Addr} {fd : FuncData} (F : Fun K "text_of" "text_of" s_text_of f fd) : FnOk P w K mg base CX0 1 f fd ["signs", "marks"] (spTextOf K) := by
  refine F.ok sc_textof (fun vs H Q E h => ?_) (fun cdv A outer s H vs Q E hr h => ?_)
  · obtain ⟨sl, ml, signs, marks, rfl, _⟩ := h
    rfl
  · obtain ⟨sl, ml, signs, marks, rfl, h1, h2, hm, hl, hz, k⟩ := h
    have nd := sc_textof.nd
    have szl : (10000 : Nat) < sizeLine := by decide
    refine ⟨_, pss_one (ps_ret (pe_join pe_str (pe_lc (own := [("mark", 2)]) (g := gName 2) (tt := tYes) rfl nd (pi_list (pv 1)) (blkOk_by (own := [("mark", 2)]) (N := ["signs", "marks", "mark"]) (sc := defScope s_text_of) (by decide +kernel))
        (fun _ _ _ _ _ => pg_name (i := 2) nd rfl (Or.inl rfl)) (fun _ _ _ _ _ => pts_nil) (fun _ _ _ _ _ => pe_ix (r := rIxL K) ix_list (pv 0) (pv 2) (fun _ _ => rfl))))), ?_⟩
    refine ⟨⟨_, rfl⟩, _, rfl, ml, rfl, ⟨_, h2⟩, fun D nD => lc_list (xs := nV marks) (fun i H' => H' = upd H D (.lst (sV ((marks.take i).map fun m => signs.getD m "")))) rfl (fun i H' _ x => by rw [x]; exact same_sqL (same_new nD) h2) ?_ ?_⟩
    · rintro i x H' hx rfl
      obtain ⟨m, hmm, rfl⟩ := get_map hx
      have lt := hm m (List.mem_of_getElem? hmm)
      have li := (List.getElem?_eq_some_iff.mp hmm).1
      refine ⟨rfl, _, rfl, _, rfl, sl, _, _, _, rfl, rfl, same_sqL (same_new nD) h1, atI_nat (signs_get lt), _, upd_same, ?_, ?_⟩
      · unfold sV
        rw [List.length_map, List.length_map, List.length_take]
        omega
      · rw [upd_upd, List.take_add_one, hmm]
        simp [sV]
    · rintro H' rfl
      have e : marks.take (nV marks).length = marks := List.take_of_length_le (by unfold nV; rw [List.length_map]; exact Nat.le_refl _)
      rw [e]
      have hs := sum_ones (marks.map fun m => signs.getD m "") fun y hy => by
        obtain ⟨m, hmm, rfl⟩ := List.mem_map.mp hy
        have lt := hm m hmm
        rw [List.getD_eq_getElem?_getD, List.getElem?_eq_getElem lt]
        exact hz _ (List.getElem_mem lt)
      rw [List.length_map] at hs
      have e0 : ("" : Str).length = 0 := by decide +kernel
      exact ⟨_, D, _, rfl, rfl, .inl (SqL.of upd_same), by rw [e0, List.length_map]; omega, k _ (same_new nD)⟩
/-! ### marks_there -/
def spMarks (K : PySem.W.Frag) : Sp := fun vs H Q _ => ∃ (many : Nat) (dl : Addr) (da : List Addr) (ds : List Deed), vs = [.int (many : Nat), .ref dl] ∧ DeedsAt H dl da ds ∧ (∀ d ∈ ds, d.2.2.1 < many) ∧ many ≤ 10000 ∧
  ∀ (D : Addr) (H' : Hp), Same H H' → H D = none → H' D = some (.lst (bV (thereR many ds))) → Q (.ref D) H'
abbrev nmMarks : List Str := ["many", "deeds", "there", "hand", "sign", "mark", "stands"]
theorem sc_marks : FnScope nmMarks ["many", "deeds"] (defScope s_marks_there) := ⟨rfl, rfl, rfl, by decide +kernel, rfl, by decide +kernel, by decide +kernel⟩
theorem thereR_take {many : Nat} {ds : List Deed} {i : Nat} {d : Deed} (h : ds[i]? = some d) : thereR many (ds.take (i + 1)) = markR (thereR many (ds.take i)) d := by
  unfold thereR
  rw [List.take_add_one, h, Option.toList_some, List.foldl_append, List.foldl_cons, List.foldl_nil]
theorem ok_marks {f : Addr} {fd : FuncData} (F : Fun K "marks_there" "marks_there" s_marks_there f fd) : FnOk P w K mg base CX0 1 f fd ["many", "deeds"] (spMarks K) := by
  refine F.ok sc_marks (fun vs H Q E h => ?_) (fun cdv A outer s H vs Q E hr h => ?_)
  · obtain ⟨many, dl, da, ds, rfl, _⟩ := h
    rfl
  · obtain ⟨many, dl, da, ds, rfl, hD, hm, hl, k⟩ := h
    have nd := sc_marks.nd
    have szl : (10000 : Nat) < sizeLine := by decide
    refine ⟨_, pss_cons (ps_set (i := 2) nd rfl (.inl rfl) (pe_op op_rep (pe_lst (pa_cons pe_bl pa_nil)) (pv 0)))
      (pss_cons (ps_for PassesOwn.never rfl (pi_list (pv 1)) (pg_tup rfl (pgs_cons (pg_name (i := 3) nd rfl (.inl rfl)) (pgs_cons (pg_name (i := 4) nd rfl (.inl rfl)) (pgs_cons (pg_name (i := 5) nd rfl (.inl rfl)) (pgs_cons (pg_name (i := 6) nd rfl (.inl rfl)) pgs_nil)))))
        (pss_one (ps_if (pt_cmpR op_eq (pv 6) (pe_cmpR op_eq (pv 4) pe_str (nomark _)) (nomark _)) (pss_one (ps_asg pe_bl (pg_sub (pv 2) (pv 5) set_list))) pss_nil)))
      (pss_one (ps_ret (pv 2)))), ?_⟩
    refine ⟨by show 1 ≤ sizeLine; decide, fun l0 n0 => ⟨_, rfl, l0, _, _, rfl, rfl, upd_same, by omega, by omega, by simp; omega, fun D nD => ?_⟩⟩
    have x0 := same_new (o := .lst [V.bl true]) n0
    have nD0 : H D = none := same_old x0 nD
    have e0 : (List.replicate ((many : Nat) : Int).toNat [V.bl true]).flatten = bV (List.replicate many true) := by
      simp [bV]
    rw [e0]
    have hx : ∀ {o : HO}, Same H (upd (upd H l0 (.lst [V.bl true])) D o) := same_upd x0 nD0
    refine ⟨_, rfl, dl, rfl, ⟨_, SqL.of (hx _ _ hD.lst)⟩, for_list (xs := da.map V.ref) (fun i σ H' => H' = upd (upd H l0 (.lst [V.bl true])) D (.lst (bV (thereR many (ds.take i)))) ∧ ∃ c3 c4 c5 c6 : Option V, σ = [some (.int (many : Nat)), some (.ref dl), some (.ref D), c3, c4, c5, c6]) ⟨rfl, none, none, none, none, rfl⟩ (fun i σ H' _ x => by rw [x.1]; exact SqL.of (hx _ _ hD.lst)) ?_ ?_⟩
    · rintro i x σ H1 hx1 ⟨rfl, c3, c4, c5, c6, rfl⟩
      obtain ⟨t, ht, rfl⟩ := get_map hx1
      obtain ⟨d, hd⟩ := getP (xs := ds) (i := i) (by rw [← hD.len]; exact (List.getElem?_eq_some_iff.mp ht).1)
      have h3 := hD.at_ i t d ht hd
      have lt := hm d (List.mem_of_getElem? hd)
      refine ⟨t, _, rfl, .inl (.inl (hx _ _ h3)), rfl, _, _, rfl, _, _, rfl, _, _, rfl, _, _, rfl, rfl, ?_⟩
      rw [thereR_take hd]
      refine ⟨_, rfl, _, rfl, rfl, rfl, _, rfl, ?_⟩
      have e1 : decide (V.bl d.2.2.2 = V.bl (decide (V.str d.2.1 = V.str ""))) = decide (d.2.2.2 = decide (d.2.1 = "")) := by
        have : decide (V.str d.2.1 = V.str "") = decide (d.2.1 = "") := by simp
        rw [this]
        simp
      rw [e1]
      by_cases c : d.2.2.2 = decide (d.2.1 = "")
      · rw [decide_eq_true c]
        refine iteT ⟨_, rfl, _, rfl, D, _, _, d.2.2.1, rfl, rfl, upd_same, ixN_nat (by unfold bV; rw [List.length_map, thereR_len]; exact lt), ?_⟩
        refine ⟨?_, _, _, _, _, rfl⟩
        rw [upd_upd]
        unfold markR
        rw [if_pos c]
        simp [bV, List.map_set]
      · rw [decide_eq_false c]
        refine iteF ⟨?_, _, _, _, _, rfl⟩
        unfold markR
        rw [if_neg c]
    · rintro σ H1 ⟨rfl, c3, c4, c5, c6, rfl⟩
      refine ⟨_, rfl, k D _ hx nD0 ?_⟩
      have e : ds.take (da.map V.ref).length = ds := List.take_of_length_le (by rw [List.length_map, hD.len]; exact Nat.le_refl _)
      rw [upd_same, e]
/-! ### first_there -/
def spFirst (K : PySem.W.Frag) : Sp := fun vs H Q _ => ∃ (ol tl : Addr) (order : List Nat) (there : List Bool) (spot : Nat), vs = [.ref ol, .ref tl, .int (spot : Nat)] ∧ SqL K H ol (nV order) ∧ SqL K H tl (bV there) ∧ (∀ m ∈ order, m < there.length) ∧ order.length ≤ 10000 ∧ spot ∈ order ∧
  (∃ m ∈ order.drop (order.idxOf spot), there.getD m false = true) ∧ Q (.int (firstR order there spot : Nat)) H
abbrev nmFirst : List Str := ["order", "there", "spot", "number"]
theorem sc_first : FnScope nmFirst ["order", "there", "spot"] (defScope s_first_there) := ⟨rfl, rfl, rfl, by decide +kernel, rfl, by decide +kernel, by decide +kernel⟩
theorem idx_nat {l : List Nat} {p : Nat} (h : p ∈ l) : l[l.idxOf p]? = some p ∧ l.idxOf p < l.length ∧ ∀ m z, m < l.idxOf p → l[m]? = some z → z ≠ p := by
  have h1 := List.idxOf_lt_length_of_mem h
  refine ⟨by rw [List.getElem?_eq_getElem h1, List.getElem_idxOf], h1, fun m z hm hz e => ?_⟩
  subst e
  have h2 := (List.getElem?_eq_some_iff.mp hz).2
  have h3 : m < l.length := (List.getElem?_eq_some_iff.mp hz).1
  have := List.not_of_lt_findIdx (p := (· == z)) (xs := l) (i := m) hm
  simp [h2] at this
theorem firstR_from {order : List Nat} {there : List Bool} {i m : Nat} (h : order[i]? = some m) : (order.drop i).find? (fun m => there.getD m false) = if there.getD m false = true then some m else (order.drop (i + 1)).find? (fun m => there.getD m false) := by
  have lt := (List.getElem?_eq_some_iff.mp h).1
  have e := (List.getElem?_eq_some_iff.mp h).2
  rw [List.drop_eq_getElem_cons lt, e, List.find?_cons]
  cases there.getD m false <;> rfl
theorem ok_first {f : Addr} {fd : FuncData} (F : Fun K "first_there" "first_there" s_first_there f fd) : FnOk P w K mg base CX0 1 f fd ["order", "there", "spot"] (spFirst K) := by
  refine F.ok sc_first (fun vs H Q E h => ?_) (fun cdv A outer s H vs Q E hr h => ?_)
  · obtain ⟨ol, tl, order, there, spot, rfl, _⟩ := h
    rfl
  · obtain ⟨ol, tl, order, there, spot, rfl, h1, h2, hm, hl, hs, hx, k⟩ := h
    have nd := sc_first.nd
    refine ⟨_, pss_cons (ps_set (i := 3) nd rfl (.inl rfl) (pe_bm PySem.F.plainAttrs_list PySem.F.slot_list_index PySem.F.type_list_index mt_index (pv 0) (pa_cons (pv 2) pa_nil)))
      (pss_cons (ps_while PassesOwn.never (pt_not (pt_val (pe_ix ix_list (pv 1) (pe_ix ix_list (pv 0) (pv 3) (fun _ _ => rfl)) (fun _ _ => rfl)))) (pss_one (ps_aug (i := 3) nd rfl (.inl rfl) pe_int ip_add)))
      (pss_one (ps_ret (pe_ix ix_list (pv 0) (pv 3) (fun _ _ => rfl))))), ?_⟩
    obtain ⟨g1, g2, g3⟩ := idx_nat hs
    have fl : (nV order).all flatV = true := by
      unfold nV
      rw [List.all_map]
      exact List.all_eq_true.mpr fun x _ => rfl
    refine ⟨_, rfl, .inl ⟨rfl, _, h1⟩, _, rfl, ol, nV order, .int (spot : Nat), order.idxOf spot, .int (spot : Nat), rfl, rfl, h1, rfl, fl, nV_get g1, by simp [eqV], fun m z hm2 hz => ?_, ?_⟩
    · obtain ⟨q, hq, rfl⟩ := get_map hz
      have ne := g3 m q hm2 hq
      have : ¬ ((q : Int) = (spot : Int)) := by omega
      simp [eqV, this]
    obtain ⟨m0, hm0, ht0⟩ := hx
    have ex0 : ∃ m, (order.drop (order.idxOf spot)).find? (fun m => there.getD m false) = some m := by
      cases e : (order.drop (order.idxOf spot)).find? (fun m => there.getD m false) with
      | some m => exact ⟨m, rfl⟩
      | none => exact absurd ht0 (by have := List.find?_eq_none.mp e m0 hm0; simpa using this)
    have hf : firstR order there spot = ((order.drop (order.idxOf spot)).find? fun m => there.getD m false).getD 0 := rfl
    obtain ⟨mF, hF⟩ := ex0
    rw [hF] at hf
    refine while_by (fun σ H' => H' = H ∧ ∃ i : Nat, σ = [some (.ref ol), some (.ref tl), some (.int (spot : Nat)), some (.int (i : Nat))] ∧ i < order.length ∧ (order.drop i).find? (fun m => there.getD m false) = some mF) (fun σ _ => match σ with | [_, _, _, some (.int i)] => order.length - i.toNat | _ => 0) ⟨rfl, _, rfl, g2, hF⟩ ?_ ?_
    · rintro σ H' ⟨rfl, i, rfl, hi, hfi⟩
      obtain ⟨m, hmi⟩ := getP (xs := order) (i := i) hi
      have lt := hm m (List.mem_of_getElem? hmi)
      rw [firstR_from hmi] at hfi
      refine ⟨_, rfl, _, rfl, _, rfl, ol, _, _, _, rfl, rfl, h1, atI_nat (nV_get hmi), tl, _, _, _, rfl, rfl, h2, atI_nat (bV_get lt), there.getD m false, rfl, ?_⟩
      cases e : there.getD m false with
      | true =>
        rw [e] at hfi
        cases hfi
        refine iteF ?_
        refine ⟨_, rfl, _, rfl, ol, _, _, _, rfl, rfl, h1, atI_nat (nV_get hmi), ?_⟩
        rw [hf] at k
        exact k
      | false =>
        rw [e] at hfi
        refine iteT ⟨_, rfl, _, _, rfl, rfl, ⟨rfl, i + 1, rfl, ?_, hfi⟩, ?_⟩
        · by_cases c : i + 1 < order.length
          · exact c
          · have hfi : (order.drop (i + 1)).find? (fun m => there.getD m false) = some mF := hfi
            rw [List.drop_eq_nil_of_le (by omega)] at hfi
            cases hfi
        · show order.length - (((i : Nat) : Int) + 1).toNat < order.length - (((i : Nat) : Int)).toNat
          omega
    · intro σ H' Q Q' hQ h
      obtain ⟨v1, e1, v2, e2, v3, e3, p, xs, i, v, a1, a2, a3, a4, p', xs', i', v', b1, b2, b3, b4, c, hc, q⟩ := h
      exact ⟨v1, e1, v2, e2, v3, e3, p, xs, i, v, a1, a2, a3, a4, p', xs', i', v', b1, b2, b3, b4, c, hc, hQ _ _ q⟩
end
end TG

namespace TG
open PySem PySem.Spec PyProof.Rows L2 Gx
/-! ### a table as it stands -/
structure TSt where
  signs : List Str
  order : List Nat
  there : List Bool
  deeds : List Deed
  spots : List Nat
  undone : List (List Nat)
structure TA where
  dx : Addr
  st : Addr
  sg : Addr
  od : Addr
  th : Addr
  dl : Addr
  sp : Addr
  ud : Addr
  da : List Addr
  ua : List Addr
abbrev TA.fs (a : TA) : List (Str × V) := [("style", .ref a.st), ("signs", .ref a.sg), ("order", .ref a.od), ("there", .ref a.th), ("deeds", .ref a.dl), ("spots", .ref a.sp), ("undone", .ref a.ud)]
structure TabC (K : PySem.W.Frag) (B : Addr) : Prop where
  cls : Cls K B
  nStyle : NoAttr K B "style"
  nSigns : NoAttr K B "signs"
  nOrder : NoAttr K B "order"
  nThere : NoAttr K B "there"
  nDeeds : NoAttr K B "deeds"
  nSpots : NoAttr K B "spots"
  nUndone : NoAttr K B "undone"
structure TabD (B : Addr) (H : Hp) (tb : Addr) (a : TA) (S : TSt) : Prop where
  ob : H tb = some (.ins B a.dx a.fs)
  sg : H a.sg = some (.lst (sV S.signs))
  od : H a.od = some (.lst (nV S.order))
  th : H a.th = some (.lst (bV S.there))
  de : DeedsAt H a.dl a.da S.deeds
  sp : H a.sp = some (.lst (nV S.spots))
  ud : H a.ud = some (.lst (a.ua.map V.ref))
  ul : a.ua.length = S.undone.length
  un : ∀ (i : Nat) (u : Addr) (l : List Nat), a.ua[i]? = some u → S.undone[i]? = some l → H u = some (.lst (nV l))
  nd : (a.sp :: a.ud :: a.ua).Nodup
  dj : ∀ c ∈ a.sp :: a.ud :: a.ua, c ≠ a.sg ∧ c ≠ a.od ∧ c ≠ a.th ∧ c ≠ a.dl
/-- what a table may change -/
def ownT (tb : Addr) (a : TA) : Addr → Prop := fun c => c = tb ∨ c = a.sg ∨ c = a.od ∨ c = a.th ∨ c = a.dl ∨ c = a.sp ∨ c = a.ud ∨ c ∈ a.ua
section
variable {B tb : Addr} {H H' : Hp} {a : TA} {S : TSt} {A : Addr → Prop}
theorem TabD.mob (o : TabD B H tb a S) : Mob H (ownT tb a) := fun c hc => by
  rcases hc with e | e | e | e | e | e | e | e
  · exact .inr ⟨_, _, _, e ▸ o.ob⟩
  · exact .inl ⟨_, e ▸ o.sg⟩
  · exact .inl ⟨_, e ▸ o.od⟩
  · exact .inl ⟨_, e ▸ o.th⟩
  · exact .inl ⟨_, e ▸ o.de.lst⟩
  · exact .inl ⟨_, e ▸ o.sp⟩
  · exact .inl ⟨_, e ▸ o.ud⟩
  · obtain ⟨i, hi⟩ := List.mem_iff_getElem?.mp e
    obtain ⟨l, hl⟩ := getP (xs := S.undone) (i := i) (by rw [← o.ul]; exact (List.getElem?_eq_some_iff.mp hi).1)
    exact .inl ⟨_, o.un i c l hi hl⟩
theorem TabD.km (o : TabD B H tb a S) (x : KM A H H') (m : Mob H A) (n : ∀ c, ownT tb a c → ¬ A c) : TabD B H' tb a S := by
  have f : ∀ {c : Addr} {xs : List V}, ownT tb a c → H c = some (.lst xs) → H' c = some (.lst xs) := fun {c xs} hc h => x _ _ h (fun ps z => by cases z) (n c hc)
  exact ⟨x _ _ o.ob (fun ps z => by cases z) (n _ (.inl rfl)), f (.inr (.inl rfl)) o.sg, f (.inr (.inr (.inl rfl))) o.od, f (.inr (.inr (.inr (.inl rfl)))) o.th,
    ⟨f (.inr (.inr (.inr (.inr (.inl rfl))))) o.de.lst, o.de.len, fun i t d h1 h2 => tup_km x m (o.de.at_ i t d h1 h2)⟩, f (.inr (.inr (.inr (.inr (.inr (.inl rfl)))))) o.sp,
    f (.inr (.inr (.inr (.inr (.inr (.inr (.inl rfl))))))) o.ud, o.ul, fun i u l h1 h2 => f (.inr (.inr (.inr (.inr (.inr (.inr (.inr (List.mem_of_getElem? h1)))))))) (o.un i u l h1 h2), o.nd, o.dj⟩
theorem TabD.gw (o : TabD B H tb a S) (x : LamX.ExtN H H') : TabD B H' tb a S := o.km (A := fun _ => False) (KM.of x) (fun c h => h.elim) fun c _ h => h
theorem same_extN {H H' : Hp} (x : Same H H') : LamX.ExtN H H' := fun b o h _ => x b o h
theorem TabD.same (o : TabD B H tb a S) (x : Same H H') : TabD B H' tb a S := o.gw (same_extN x)
/-- one of its lists is written -/
theorem upd_own {c : Addr} {o : HO} (h : ownT tb a c) : KM (ownT tb a) H (upd H c o) := fun b u hb _ n => by rw [upd_ne (fun z => n (by rw [z]; exact h))]; exact hb
theorem upd_ownN {cs : List (Addr × Addr)} {c : Addr} {o : HO} (h : ownT tb a c) : KN cs (ownT tb a) H (upd H c o) := fun b u hb _ n => by rw [upd_ne (fun z => n (by rw [z]; exact h))]; exact hb
theorem TabD.hand (o : TabD B H tb a S) (l : List Nat) : TabD B (upd H a.sp (.lst (nV l))) tb a { S with spots := l } := by
  have d := o.dj a.sp (by simp)
  have nd := o.nd
  rw [List.nodup_cons, List.mem_cons, List.nodup_cons] at nd
  have f : ∀ {c : Addr} {u : HO}, c ≠ a.sp → H c = some u → upd H a.sp (.lst (nV l)) c = some u := fun n h => by rw [upd_ne n]; exact h
  have ft : ∀ {c : Addr} {us : List V}, H c = some (.tup us) → c ≠ a.sp := fun h e => by rw [e, o.sp] at h; cases h
  exact ⟨f (fun e => by have := o.ob; rw [e, o.sp] at this; cases this) o.ob, f d.1.symm o.sg, f d.2.1.symm o.od, f d.2.2.1.symm o.th,
    ⟨f d.2.2.2.symm o.de.lst, o.de.len, fun i t dd h1 h2 => f (ft (o.de.at_ i t dd h1 h2)) (o.de.at_ i t dd h1 h2)⟩, upd_same, f (fun e => nd.1 (.inl e.symm)) o.ud, o.ul,
    fun i u m h1 h2 => f (fun e => nd.1 (.inr (e ▸ List.mem_of_getElem? h1))) (o.un i u m h1 h2), o.nd, o.dj⟩
end
/-! ### what it is for -/
structure TOk (S : TSt) : Prop where
  one : ∀ z ∈ S.signs, z.length ≤ 1
  many : S.signs.length ≤ 9000
  ord : ∀ m ∈ S.order, m < S.signs.length
  ol : S.order.length ≤ 9000
  tl : S.there.length = S.signs.length
  dm : ∀ d ∈ S.deeds, d.2.2.1 < S.signs.length
  dn : S.deeds.length ≤ 9000
  sp : ∀ s ∈ S.spots, s ∈ thoseR S.order S.there
  hn : S.spots.length = S.undone.length
  h4 : S.spots.length ≤ 4
  un : ∀ l ∈ S.undone, l.length ≤ 9000 ∧ ∀ n ∈ l, n < S.deeds.length
abbrev hereR (S : TSt) : List Nat := thoseR S.order S.there
def nearR (S : TSt) (h : Nat) (by_ : Int) : Option Nat :=
  if 0 ≤ (((hereR S).idxOf (S.spots.getD h 0) : Nat) : Int) + by_ ∧ (((hereR S).idxOf (S.spots.getD h 0) : Nat) : Int) + by_ < ((hereR S).length : Nat) then (hereR S)[((((hereR S).idxOf (S.spots.getD h 0) : Nat) : Int) + by_).toNat]? else none
def goR1 (S : TSt) (h : Nat) (by_ : Int) : Bool × TSt := match nearR S h by_ with
  | none => (false, S)
  | some m => (true, { S with spots := S.spots.set h m })
def nonN : Option Nat → V
  | none => .non
  | some n => .int (n : Nat)
theorem hereR_len (S : TSt) : (hereR S).length ≤ S.order.length := List.length_filter_le _ _
theorem hereR_lt {S : TSt} (o : TOk S) : ∀ m ∈ hereR S, m < S.signs.length := fun m hm => o.ord m (List.mem_filter.mp hm).1
theorem nV_len (l : List Nat) : (nV l).length = l.length := by unfold nV; rw [List.length_map]
theorem getD_spot {S : TSt} {h : Nat} (hh : h < S.spots.length) : S.spots[h]? = some (S.spots.getD h 0) := by
  rw [List.getD_eq_getElem?_getD, List.getElem?_eq_getElem hh]
  rfl
theorem tabs_lst {cs : List (Addr × Addr)} {H : Hp} {a : Addr} {us : List V} {o : HO} (t : Tabs cs H) (h : H a = some (.lst us)) : Tabs cs (upd H a o) := fun p hp => by
  obtain ⟨ps, h1, h2⟩ := t p hp
  exact ⟨ps, by rw [upd_ne fun z => by rw [z, h] at h1; cases h1]; exact h1, h2⟩
theorem upd_old {H : Hp} {a : Addr} {u o : HO} (h : H a = some u) {b : Addr} (hb : upd H a o b = none) : H b = none := by
  by_cases z : b = a
  · rw [z, upd_same] at hb; cases hb
  · rw [upd_ne z] at hb; exact hb
theorem ints_flat (l : List Nat) : (nV l).all flatV = true := by
  unfold nV
  rw [List.all_map]
  exact List.all_eq_true.mpr fun x _ => rfl
theorem ints_no {l : List Nat} {p : Nat} (g : ∀ m z, m < l.idxOf p → l[m]? = some z → z ≠ p) (m : Nat) (z : V) (hm : m < l.idxOf p) (hz : (nV l)[m]? = some z) : eqV z (.int (p : Nat)) = false := by
  obtain ⟨q, hq, rfl⟩ := get_map hz
  have ne := g m q hm hq
  have : ¬ ((q : Int) = (p : Int)) := by omega
  simp [eqV, this]
section
variable {P : Program} {w : World} {K : PySem.W.Frag} {mg : Str → Option Value} {base : Heap} {cs : List (Addr × Addr)} {B : Addr}
def spWholeB : Sp := fun vs H Q _ => ∃ (i lo hi : Int), vs = [.int i, .int lo, .int hi] ∧ Q (.bl (decide (lo ≤ i ∧ i ≤ hi))) H
theorem ok_wholeB {f : Addr} {fd : FuncData} (T : Txt mg) (F : Fun K "is_whole" "is_whole" s_is_whole f fd) : FnOk P w K mg base CX0 1 f fd ["value", "low", "high"] spWholeB := by
  refine F.ok sc_whole (fun vs H Q E h => ?_) (fun cdv A outer s H vs Q E hr h => ?_)
  · obtain ⟨i, lo, hi, rfl, _⟩ := h
    rfl
  · obtain ⟨i, lo, hi, rfl, k⟩ := h
    refine ⟨_, pss_one (ps_ret (pe_and (pe_callB call_isi (by rfl) T.isin (by decide +kernel) (pa_cons (pv 0) (pa_cons (pe_bltn (v := .ty "int") (by rfl) T.int (by decide +kernel) rfl) pa_nil)))
      (pe_and (pe_not (pe_callB call_isi (by rfl) T.isin (by decide +kernel) (pa_cons (pv 0) (pa_cons (pe_bltn (v := .ty "bool") (by rfl) T.bool (by decide +kernel) rfl) pa_nil)))) (pe_one (pe_chain op_le op_le (pv 1) (pv 0) (pv 2)))))), ?_⟩
    refine ⟨_, rfl, _, _, _, _, true, rfl, .ty _, .base (.int i), kit_ty (by decide +kernel), true, rfl, iteT ⟨_, rfl, _, _, _, _, false, rfl, .ty _, .base (.int i), kit_ty (by decide +kernel), false, rfl, true, rfl, iteT ⟨_, rfl, _, rfl, lo, i, rfl, rfl, ?_⟩⟩⟩
    by_cases h1 : lo ≤ i
    · refine ⟨true, dT h1, iteT ⟨_, rfl, i, hi, rfl, rfl, ?_⟩⟩
      have e : decide (lo ≤ i ∧ i ≤ hi) = decide (i ≤ hi) := by simp [h1]
      rw [e] at k
      exact k
    · have e : decide (lo ≤ i ∧ i ≤ hi) = false := decide_eq_false fun z => h1 z.1
      rw [e] at k
      exact ⟨false, dF h1, iteF k⟩
/-! ### check_hand -/
def spHand (B : Addr) : Sp := fun vs H Q _ => ∃ (tb : Addr) (h : Nat) (a : TA) (S : TSt), vs = [.ref tb, .int (h : Nat)] ∧ TabD B H tb a S ∧ h < S.spots.length ∧ Q .non H
theorem sc_chand : FnScope ["self", "hand"] ["self", "hand"] (defScope (mth nTable 11)) := ⟨rfl, rfl, rfl, by decide +kernel, rfl, by decide +kernel, by decide +kernel⟩
theorem ok_chand {f g : Addr} {fd fdg : FuncData} (T : Txt mg) (X : TabC K B) (F : Fun K "check_hand" "Table.check_hand" (mth nTable 11) f fd)
    (W : FnOk P w K mg base CX0 1 g fdg ["value", "low", "high"] spWholeB) (kp : PySem.W.keepIn K (.ref g) = true) (bd : Binds K fdg ["value", "low", "high"] []) (mgg : mg "is_whole" = some (.ref g)) : FnOk P w K mg base CX0 2 f fd ["self", "hand"] (spHand B) := by
  refine F.ok sc_chand (fun vs H Q E h => ?_) (fun cdv A outer s H vs Q E hr h => ?_)
  · obtain ⟨tb, h, a, S, rfl, _⟩ := h
    rfl
  · obtain ⟨tb, h, a, S, rfl, hD, hh, k⟩ := h
    refine ⟨_, pss_one (ps_if (pt_not (pt_val (pe_call W hr (by rfl) mgg kp bd .nil pass0 (pa_cons (pv 1) (pa_cons pe_int (pa_cons (pe_op op_sub (pe_callB call_len_seq (by rfl) T.len PySem.boot_len (pa_cons (pe_fld (pv 0) rfl) pa_nil)) pe_int) pa_nil)))))) (pss_one ps_never) pss_nil), ?_⟩
    refine ⟨_, rfl, _, rfl, tb, B, a.dx, _, _, rfl, hD.ob, X.cls, X.nSpots, rfl, a.sp, _, rfl, .inl (SqL.of hD.sp), _, _, rfl, rfl, _, _, _, rfl, true, ?_, iteF k⟩
    rw [nV_len, decide_eq_true ⟨by omega, by omega⟩]
/-! ### present -/
def spPresent (B : Addr) : Sp := fun vs H Q _ => ∃ (tb : Addr) (a : TA) (S : TSt), vs = [.ref tb] ∧ TabD B H tb a S ∧ TOk S ∧ ∀ D, H D = none → Q (.ref D) (upd H D (.lst (nV (hereR S))))
theorem sc_present : FnScope ["self"] ["self"] (defScope (mth nTable 12)) := ⟨rfl, rfl, rfl, by decide +kernel, rfl, by decide +kernel, by decide +kernel⟩
theorem ok_present {f g : Addr} {fd fdg : FuncData} (X : TabC K B) (F : Fun K "present" "Table.present" (mth nTable 12) f fd)
    (G : FnOk P w K mg base CX0 1 g fdg ["order", "there"] (spThose K)) (kp : PySem.W.keepIn K (.ref g) = true) (bd : Binds K fdg ["order", "there"] []) (mgg : mg "those_there" = some (.ref g)) : FnOk P w K mg base CX0 2 f fd ["self"] (spPresent B) := by
  refine F.ok sc_present (fun vs H Q E h => ?_) (fun cdv A outer s H vs Q E hr h => ?_)
  · obtain ⟨tb, a, S, rfl, _⟩ := h
    rfl
  · obtain ⟨tb, a, S, rfl, hD, hO, k⟩ := h
    refine ⟨_, pss_one (ps_ret (pe_call G hr (by rfl) mgg kp bd .nil pass0 (pa_cons (pe_fld (pv 0) rfl) (pa_cons (pe_fld (pv 0) rfl) pa_nil)))), ?_⟩
    exact ⟨_, rfl, tb, B, a.dx, _, _, rfl, hD.ob, X.cls, X.nOrder, rfl, _, rfl, tb, B, a.dx, _, _, rfl, hD.ob, X.cls, X.nThere, rfl, a.od, a.th, S.order, S.there, rfl, SqL.of hD.od, SqL.of hD.th, fun m hm => by rw [hO.tl]; exact hO.ord m hm, by have := hO.ol; omega, k⟩
/-! ### near -/
def spNear (B : Addr) : Sp := fun vs H Q _ => ∃ (tb : Addr) (h : Nat) (by_ : Int) (a : TA) (S : TSt), vs = [.ref tb, .int (h : Nat), .int by_] ∧ TabD B H tb a S ∧ TOk S ∧ h < S.spots.length ∧ ∀ H', Same H H' → Q (nonN (nearR S h by_)) H'
abbrev nmNear : List Str := ["self", "hand", "by", "present", "number"]
theorem sc_near : FnScope nmNear ["self", "hand", "by"] (defScope (mth nTable 13)) := ⟨rfl, rfl, rfl, by decide +kernel, rfl, by decide +kernel, by decide +kernel⟩
theorem ok_near {f g : Addr} {fd fdg : FuncData} (T : Txt mg) (X : TabC K B) (F : Fun K "near" "Table.near" (mth nTable 13) f fd)
    (M : Meth K B "present" g) (G : FnOk P w K mg base CX0 2 g fdg ["self"] (spPresent B)) (bd : Binds K fdg ["self"] []) : FnOk P w K mg base CX0 3 f fd ["self", "hand", "by"] (spNear B) := by
  refine F.ok sc_near (fun vs H Q E h => ?_) (fun cdv A outer s H vs Q E hr h => ?_)
  · obtain ⟨tb, h, by_, a, S, rfl, _⟩ := h
    rfl
  · obtain ⟨tb, h, by_, a, S, rfl, hD, hO, hh, k⟩ := h
    have nd := sc_near.nd
    refine ⟨_, pss_cons (ps_set (i := 3) nd rfl (.inl rfl) (pe_meth0 (pv 0) X.cls M G hr bd .nil pass0))
      (pss_cons (ps_set (i := 4) nd rfl (.inl rfl) (pe_op op_add (pe_bm PySem.F.plainAttrs_list PySem.F.slot_list_index PySem.F.type_list_index mt_index (pv 3) (pa_cons (pe_ix ix_list (pe_fld (pv 0) rfl) (pv 1) (fun _ _ => rfl)) pa_nil)) (pv 2)))
      (pss_cons (ps_if (pt_chain op_le op_lt pe_int (pv 4) (pe_callB call_len_seq (by rfl) T.len PySem.boot_len (pa_cons (pv 3) pa_nil))) (pss_one (ps_ret (pe_ix ix_list (pv 3) (pv 4) (fun _ _ => rfl)))) pss_nil)
      (pss_one (ps_ret pe_non)))), ?_⟩
    refine ⟨_, rfl, tb, a.dx, _, rfl, hD.ob, rfl, tb, a, S, rfl, hD, hO, fun D nD => ?_⟩
    have x1 := same_new (o := .lst (nV (hereR S))) nD
    have hD1 := hD.same x1
    have h1 : upd H D (.lst (nV (hereR S))) D = some (.lst (nV (hereR S))) := upd_same
    generalize upd H D (.lst (nV (hereR S))) = H1 at x1 hD1 h1 ⊢
    have hs := getD_spot hh
    obtain ⟨g1, g2, g3⟩ := idx_nat (hO.sp _ (List.mem_of_getElem? hs))
    refine ⟨_, rfl, .inl ⟨rfl, _, SqL.of h1⟩, _, rfl, tb, B, a.dx, _, _, rfl, hD1.ob, X.cls, X.nSpots, rfl, _, rfl, a.sp, _, _, _, rfl, rfl, SqL.of hD1.sp, atI_nat (nV_get hs), D, nV (hereR S), .int (S.spots.getD h 0 : Nat), (hereR S).idxOf (S.spots.getD h 0), .int (S.spots.getD h 0 : Nat), rfl, rfl, SqL.of h1, rfl, ints_flat _, nV_get g1, by simp [eqV], ints_no g3, ?_⟩
    refine ⟨_, rfl, _, _, rfl, rfl, ?_⟩
    have eb : nearR S h by_ = if 0 ≤ (((hereR S).idxOf (S.spots.getD h 0) : Nat) : Int) + by_ ∧ (((hereR S).idxOf (S.spots.getD h 0) : Nat) : Int) + by_ < ((hereR S).length : Nat) then (hereR S)[((((hereR S).idxOf (S.spots.getD h 0) : Nat) : Int) + by_).toNat]? else none := rfl
    dsimp only
    generalize (((hereR S).idxOf (S.spots.getD h 0) : Nat) : Int) + by_ = n at eb ⊢
    refine ⟨_, rfl, 0, n, rfl, rfl, ?_⟩
    by_cases c1 : 0 ≤ n
    · refine ⟨true, dT c1, iteT ⟨_, rfl, D, _, rfl, .inl (SqL.of h1), n, _, rfl, rfl, ?_⟩⟩
      rw [nV_len]
      by_cases c2 : n < ((hereR S).length : Nat)
      · refine ⟨true, dT c2, iteT ?_⟩
        obtain ⟨m, rfl⟩ := Int.eq_ofNat_of_zero_le c1
        have hm : m < (hereR S).length := by omega
        rw [if_pos ⟨c1, c2⟩] at eb
        have em : ((m : Nat) : Int).toNat = m := rfl
        rw [em] at eb
        obtain ⟨q, hq⟩ := getP (xs := hereR S) (i := m) hm
        refine ⟨_, rfl, _, rfl, D, _, _, .int (q : Nat), rfl, rfl, SqL.of h1, atI_nat (nV_get hq), ?_⟩
        have := k _ x1
        rw [eb, hq] at this
        exact this
      · refine ⟨false, dF c2, iteF ?_⟩
        rw [if_neg fun z => c2 z.2] at eb
        have := k _ x1
        rw [eb] at this
        exact this
    · refine ⟨false, dF c1, iteF ?_⟩
      rw [if_neg fun z => c1 z.1] at eb
      have := k _ x1
      rw [eb] at this
      exact ⟨_, rfl, iteF this⟩
/-! ### go, right -/
/-- what a table does, if it doesn't fail -/
def Went (cs : List (Addr × Addr)) (B : Addr) (H : Hp) (tb : Addr) (a : TA) (S' : TSt) (Q : Hp → Prop) : Prop :=
  ∀ (a' : TA) (H' : Hp), KN cs (ownT tb a) H H' → (∀ c, ownT tb a' c → ownT tb a c ∨ H c = none) → Tabs cs H' → (∀ b, H' b = none → H b = none) → TabD B H' tb a' S' → Q H'
def spGo (cs : List (Addr × Addr)) (B : Addr) : Sp := fun vs H Q _ => ∃ (tb : Addr) (h : Nat) (by_ : Int) (a : TA) (S : TSt), vs = [.ref tb, .int (h : Nat), .int by_] ∧ Tabs cs H ∧ TabD B H tb a S ∧ TOk S ∧ h < S.spots.length ∧ Went cs B H tb a (goR1 S h by_).2 fun H' => Q (.bl (goR1 S h by_).1) H'
abbrev nmGo : List Str := ["self", "hand", "by", "mark"]
theorem sc_go : FnScope nmGo ["self", "hand", "by"] (defScope (mth nTable 14)) := ⟨rfl, rfl, rfl, by decide +kernel, rfl, by decide +kernel, by decide +kernel⟩
theorem ok_go {f g : Addr} {fd fdg : FuncData} (X : TabC K B) (F : Fun K "go" "Table.go" (mth nTable 14) f fd)
    (M : Meth K B "near" g) (G : FnOk P w K mg base CX0 3 g fdg ["self", "hand", "by"] (spNear B)) (bd : Binds K fdg ["self", "hand", "by"] []) : FnOk P w K mg base CX0 4 f fd ["self", "hand", "by"] (spGo cs B) := by
  refine F.ok sc_go (fun vs H Q E h => ?_) (fun cdv A outer s H vs Q E hr h => ?_)
  · obtain ⟨tb, h, by_, a, S, rfl, _⟩ := h
    rfl
  · obtain ⟨tb, h, by_, a, S, rfl, hT, hD, hO, hh, k⟩ := h
    have nd := sc_go.nd
    refine ⟨_, pss_cons (ps_set (i := 3) nd rfl (.inl rfl) (pe_meth (pv 0) X.cls M G hr bd .nil pass0 (pa_cons (pv 1) (pa_cons (pv 2) pa_nil))))
      (pss_cons (ps_if (pt_cmpR op_isN (pv 3) pe_non (nomark _)) (pss_one (ps_ret pe_bl)) pss_nil)
      (pss_cons (ps_asg (pv 3) (pg_sub (pe_fld (pv 0) rfl) (pv 1) set_list)) (pss_one (ps_ret pe_bl)))), ?_⟩
    refine ⟨_, rfl, tb, a.dx, _, rfl, hD.ob, rfl, _, rfl, _, rfl, tb, h, by_, a, S, rfl, hD, hO, hh, fun H1 x1 => ?_⟩
    have hD1 := hD.same x1
    have t1 := (same_ex x1 hT).tab
    unfold goR1 at k
    cases e : nearR S h by_ with
    | none =>
      rw [e] at k
      exact ⟨_, rfl, rfl, true, rfl, iteT (k a H1 (KN.same x1) (fun c hc => .inl hc) t1 (fun b hb => same_old x1 hb) hD1)⟩
    | some m =>
      rw [e] at k
      refine ⟨_, rfl, rfl, false, rfl, iteF ⟨_, rfl, _, rfl, tb, B, a.dx, _, _, rfl, hD1.ob, X.cls, X.nSpots, rfl, _, rfl, a.sp, _, _, h, rfl, rfl, hD1.sp, ixN_nat (by rw [nV_len]; exact hh), ?_⟩⟩
      have es : (nV S.spots).set h (nonN (some m)) = nV (S.spots.set h m) := by unfold nV; rw [List.map_set]; rfl
      dsimp only
      rw [es]
      exact k a _ ((KN.same x1).tr (upd_ownN (.inr (.inr (.inr (.inr (.inr (.inl rfl)))))))) (fun c hc => .inl hc) (tabs_lst t1 hD1.sp) (fun b hb => same_old x1 (upd_old hD1.sp hb)) (hD1.hand _)
def spTRight (cs : List (Addr × Addr)) (B : Addr) : Sp := fun vs H Q _ => ∃ (tb : Addr) (h : Nat) (a : TA) (S : TSt), vs = [.ref tb, .int (h : Nat)] ∧ Tabs cs H ∧ TabD B H tb a S ∧ TOk S ∧ h < S.spots.length ∧ Went cs B H tb a (goR1 S h 1).2 fun H' => Q (.bl (goR1 S h 1).1) H'
theorem sc_tright : FnScope ["self", "hand"] ["self", "hand"] (defScope (mth nTable 6)) := ⟨rfl, rfl, rfl, by decide +kernel, rfl, by decide +kernel, by decide +kernel⟩
theorem ok_tright {f g1 g2 : Addr} {fd fd1 fd2 : FuncData} (X : TabC K B) (F : Fun K "right" "Table.right" (mth nTable 6) f fd)
    (M1 : Meth K B "check_hand" g1) (G1 : FnOk P w K mg base CX0 2 g1 fd1 ["self", "hand"] (spHand B)) (b1 : Binds K fd1 ["self", "hand"] [])
    (M2 : Meth K B "go" g2) (G2 : FnOk P w K mg base CX0 4 g2 fd2 ["self", "hand", "by"] (spGo cs B)) (b2 : Binds K fd2 ["self", "hand", "by"] []) : FnOk P w K mg base CX0 5 f fd ["self", "hand"] (spTRight cs B) := by
  refine F.ok sc_tright (fun vs H Q E h => ?_) (fun cdv A outer s H vs Q E hr h => ?_)
  · obtain ⟨tb, h, a, S, rfl, _⟩ := h
    rfl
  · obtain ⟨tb, h, a, S, rfl, hT, hD, hO, hh, k⟩ := h
    have r2 : Room 2 _ := hr.mono (by decide)
    refine ⟨_, pss_cons (ps_expr (pe_meth (pv 0) X.cls M1 G1 r2 b1 .nil pass0 (pa_cons (pv 1) pa_nil))) (pss_one (ps_ret (pe_meth (pv 0) X.cls M2 G2 hr b2 .nil pass0 (pa_cons (pv 1) (pa_cons pe_int pa_nil))))), ?_⟩
    exact ⟨_, rfl, tb, a.dx, _, rfl, hD.ob, rfl, _, rfl, tb, h, a, S, rfl, hD, hh, _, rfl, tb, a.dx, _, rfl, hD.ob, rfl, _, rfl, tb, h, 1, a, S, rfl, hT, hD, hO, hh, k⟩
end
end TG

namespace TG
open PySem PySem.Spec PyProof.Rows L2 Gx
/-! ### new tuples in a new list -/
structure TupL (H0 : Hp) (D : Addr) (l : List (List V)) (H : Hp) : Prop where
  sm : Same H0 H
  nD : H0 D = none
  ts : ∃ ts : List Addr, H D = some (.lst (ts.map V.ref)) ∧ ts.length = l.length ∧ ∀ (j : Nat) (t : Addr) (v : List V), ts[j]? = some t → l[j]? = some v → H t = some (.tup v)
theorem TupL.start {H0 : Hp} {D : Addr} (n : H0 D = none) : TupL H0 D [] (upd H0 D (.lst [])) := ⟨same_new n, n, [], upd_same, rfl, fun j t v h => by cases h⟩
theorem TupL.grow {H0 H H' : Hp} {D : Addr} {l : List (List V)} (o : TupL H0 D l H) (x : Same H H') : TupL H0 D l H' := by
  obtain ⟨ts, h1, h2, h3⟩ := o.ts
  exact ⟨fun b u e => x b u (o.sm b u e), o.nD, ts, x _ _ h1, h2, fun j t v e1 e2 => x _ _ (h3 j t v e1 e2)⟩
theorem TupL.more {H0 H : Hp} {D t : Addr} {l : List (List V)} {v : List V} (o : TupL H0 D l H) (ht : H t = some (.tup v)) : ∃ acc, H D = some (.lst acc) ∧ acc.length = l.length ∧ TupL H0 D (l ++ [v]) (upd H D (.lst (acc ++ [.ref t]))) := by
  obtain ⟨ts, h1, h2, h3⟩ := o.ts
  have tD : ∀ {t : Addr} {v : List V}, H t = some (.tup v) → t ≠ D := fun {t v} h z => by rw [z, h1] at h; cases h
  refine ⟨_, h1, by rw [List.length_map, h2], fun b u e => by rw [upd_ne (ne_of_none e o.nD)]; exact o.sm b u e, o.nD, ts ++ [t], by rw [upd_same]; simp, by rw [List.length_append, List.length_append, h2]; rfl, fun j s u e1 e2 => ?_⟩
  by_cases hj : j < ts.length
  · rw [List.getElem?_append_left hj] at e1
    rw [List.getElem?_append_left (by rw [← h2]; exact hj)] at e2
    have := h3 j s u e1 e2
    rw [upd_ne (tD this)]
    exact this
  · have hl := (List.getElem?_eq_some_iff.mp e1).1
    rw [List.length_append, List.length_singleton] at hl
    have ej : j = ts.length := by omega
    subst ej
    rw [List.getElem?_append_right (Nat.le_refl _), Nat.sub_self] at e1
    rw [h2, List.getElem?_append_right (Nat.le_refl _), Nat.sub_self] at e2
    cases e1
    cases e2
    rw [upd_ne (tD ht)]
    exact ht
/-! ### places -/
theorem cut_toV {xs : List V} {k : Nat} : cutV xs none (some (k : Int)) = xs.take k := by
  unfold cutV
  rw [HT.sIx_nat, HT.sIx_none, List.drop_zero, Nat.sub_zero]
  by_cases h : k ≤ xs.length
  · rw [Nat.min_eq_left h]
  · rw [Nat.min_eq_right (by omega), List.take_of_length_le (Nat.le_refl _), List.take_of_length_le (show xs.length ≤ k by omega)]
/-- what a table tells of its deeds -/
def toldV (d : Deed) : List V := [.int (d.1 : Nat), .str d.2.1, .bl d.2.2.2]
/-- where a hand stands -/
def atR (S : TSt) (h : Nat) : Nat × Nat × Nat :=
  let R := rowsT (textR S.signs ((hereR S).take ((hereR S).idxOf (S.spots.getD h 0))))
  (R.length - 1, (R.getLast?.getD []).length - 1, ((R.getLast?.getD []).getLast?.getD "").length)
theorem textR_len {signs : List Str} {marks : List Nat} (h1 : ∀ z ∈ signs, z.length ≤ 1) : (textR signs marks).length ≤ marks.length := by
  have e : (textR signs marks).length = ((marks.map fun m => signs.getD m "").map (·.length)).sum := by
    unfold textR
    rw [len_cl, cl_joinL]
    have : ∀ ys : List Str, (TL.joinL (cl "") (ys.map cl)).length = (ys.map (·.length)).sum := by
      intro ys
      induction ys with
      | nil => rfl
      | cons y ys ih =>
        have e0 : cl ("" : Str) = [] := by decide +kernel
        rw [e0] at ih ⊢
        cases ys with
        | nil => simp [TL.joinL, len_cl]
        | cons z zs =>
          have e1 : ((y :: z :: zs).map (·.length)).sum = y.length + ((z :: zs).map (·.length)).sum := by rw [List.map_cons, List.sum_cons]
          rw [e1, ← ih]
          show ((cl y) ++ ([] ++ TL.joinL [] ((z :: zs).map cl))).length = _
          rw [List.nil_append, List.length_append, len_cl]
    exact this _
  rw [e]
  have hs := sum_ones (marks.map fun m => signs.getD m "") fun y hy => by
    obtain ⟨m, hmm, rfl⟩ := List.mem_map.mp hy
    rw [List.getD_eq_getElem?_getD]
    cases q : signs[m]? with
    | none => exact Nat.zero_le _
    | some z => exact h1 z (List.mem_of_getElem? q)
  rw [List.length_map] at hs
  exact hs
theorem rowsAt_last {ps : List Addr} {rows : List (List Str)} {H : Hp} (r : RowsAt ps rows H) (h : 1 ≤ rows.length) : ∃ q, atI (ps.map V.ref) (-1) = some (.ref q) ∧ H q = some (.tup (sV (rows.getLast?.getD []))) := by
  have hl := r.len
  have l1 : ps.length - 1 < ps.length := by omega
  refine ⟨ps[ps.length - 1], ?_, ?_⟩
  · have e : ixN (ps.map V.ref).length (-1) = some (ps.length - 1) := by
      unfold ixN
      rw [List.length_map]
      simp
      omega
    unfold atI
    rw [e]
    show (ps.map V.ref)[ps.length - 1]? = _
    rw [List.getElem?_map, List.getElem?_eq_getElem l1]
    rfl
  · refine r.row (ps.length - 1) _ _ (List.getElem?_eq_getElem l1) ?_
    rw [List.getLast?_eq_getElem?, hl, List.getElem?_eq_getElem (by omega)]
    rfl
theorem atZ_lastT {xs : List Str} (h : 1 ≤ xs.length) : atI (sV xs) (-1) = some (.str (xs.getLast?.getD "")) := by
  have e : ixN (sV xs).length (-1) = some (xs.length - 1) := by
    unfold ixN sV
    rw [List.length_map]
    simp
    omega
  unfold atI
  rw [e]
  show (sV xs)[xs.length - 1]? = _
  unfold sV
  rw [List.getElem?_map, List.getLast?_eq_getElem?, List.getElem?_eq_getElem (by omega)]
  rfl
section
variable {P : Program} {w : World} {K : PySem.W.Frag} {mg : Str → Option Value} {base : Heap} {cs : List (Addr × Addr)} {B : Addr}
/-! ### page -/
def spTPage (cs : List (Addr × Addr)) (B : Addr) : Sp := fun vs H Q _ => ∃ (tb : Addr) (a : TA) (S : TSt), vs = [.ref tb] ∧ Tabs cs H ∧ TabD B H tb a S ∧ TOk S ∧
  ∀ (r : Addr) (ps : List Addr) (H' : Hp), Ex cs H H' → H r = none → H' r = some (.lst (ps.map V.ref)) → RowsAt ps (rowsT (textR S.signs (hereR S))) H' → Q (.ref r) H'
theorem sc_tpage : FnScope ["self"] ["self"] (defScope (mth nTable 8)) := ⟨rfl, rfl, rfl, by decide +kernel, rfl, by decide +kernel, by decide +kernel⟩
theorem ok_tpage {f g1 g2 g3 : Addr} {fd fd1 fd2 fd3 : FuncData} (X : TabC K B) (F : Fun K "page" "Table.page" (mth nTable 8) f fd)
    (M1 : Meth K B "present" g1) (G1 : FnOk P w K mg base CX0 2 g1 fd1 ["self"] (spPresent B)) (b1 : Binds K fd1 ["self"] [])
    (G2 : FnOk P w K mg base CX0 1 g2 fd2 ["signs", "marks"] (spTextOf K)) (k2 : PySem.W.keepIn K (.ref g2) = true) (b2 : Binds K fd2 ["signs", "marks"] []) (m2 : mg "text_of" = some (.ref g2))
    (G3 : FnOk P w K mg base CX0 1 g3 fd3 ["text"] (spRowsOf cs)) (k3 : PySem.W.keepIn K (.ref g3) = true) (b3 : Binds K fd3 ["text"] []) (m3 : mg "rows_of" = some (.ref g3)) : FnOk P w K mg base CX0 3 f fd ["self"] (spTPage cs B) := by
  refine F.ok sc_tpage (fun vs H Q E h => ?_) (fun cdv A outer s H vs Q E hr h => ?_)
  · obtain ⟨tb, a, S, rfl, _⟩ := h
    rfl
  · obtain ⟨tb, a, S, rfl, hT, hD, hO, k⟩ := h
    have r1 : Room 1 _ := hr.mono (by decide)
    refine ⟨_, pss_one (ps_ret (pe_call G3 r1 (by rfl) m3 k3 b3 .nil pass0 (pa_cons (pe_call G2 r1 (by rfl) m2 k2 b2 .nil pass0 (pa_cons (pe_fld (pv 0) rfl) (pa_cons (pe_meth0 (pv 0) X.cls M1 G1 hr b1 .nil pass0) pa_nil))) pa_nil))), ?_⟩
    refine ⟨_, rfl, tb, B, a.dx, _, _, rfl, hD.ob, X.cls, X.nSigns, rfl, _, rfl, tb, a.dx, _, rfl, hD.ob, rfl, tb, a, S, rfl, hD, hO, fun D nD => ?_⟩
    have x1 := same_new (o := .lst (nV (hereR S))) nD
    have hl := hereR_len S
    have ho := hO.ol
    refine ⟨a.sg, D, S.signs, hereR S, rfl, SqL.of (x1 _ _ hD.sg), SqL.of upd_same, hereR_lt hO, by omega, hO.one, fun H2 x2 => ?_⟩
    have e2 := same_ex (same_trans x1 x2) hT
    have tl := textR_len (marks := hereR S) hO.one
    exact ⟨_, rfl, e2.tab, by omega, fun r ps H3 x3 nr hr3 hps => k r ps H3 (e2.trans x3) (e2.old _ nr) hr3 hps⟩
/-! ### at -/
def spTAt (cs : List (Addr × Addr)) (B : Addr) : Sp := fun vs H Q _ => ∃ (tb : Addr) (h : Nat) (a : TA) (S : TSt), vs = [.ref tb, .int (h : Nat)] ∧ Tabs cs H ∧ TabD B H tb a S ∧ TOk S ∧ h < S.spots.length ∧
  ∀ (t : Addr) (H' : Hp), Ex cs H H' → H' t = some (.tup [.int ((atR S h).1 : Nat), .int ((atR S h).2.1 : Nat), .int ((atR S h).2.2 : Nat)]) → Q (.ref t) H'
abbrev nmAt : List Str := ["self", "hand", "present", "rows"]
theorem sc_tat : FnScope nmAt ["self", "hand"] (defScope (mth nTable 7)) := ⟨rfl, rfl, rfl, by decide +kernel, rfl, by decide +kernel, by decide +kernel⟩
theorem rowsT_1 (z : Str) : 1 ≤ (rowsT z).length ∧ ∀ r ∈ rowsT z, 1 ≤ r.length := by
  have ne : ∀ (z y : Str), cl y ≠ [] → Builtin.Str.strKind y = 1 → 1 ≤ (Txt.split z y).length := fun z y h0 h1 => by
    have e := split_clL z y h0 h1
    have : (TL.spl (cl y) 0 [] (cl z)).length = (Txt.split z y).length := by rw [← e, List.length_map]
    rw [← this]
    have g : ∀ (l acc : List Nat) (k : Nat), 1 ≤ (TL.spl (cl y) k acc l).length := by
      intro l
      induction l with
      | nil => intro acc k; cases k <;> simp [TL.spl]
      | cons c r ih =>
        intro acc k
        cases k with
        | zero =>
          unfold TL.spl
          split
          · simp
          · exact ih _ _
        | succ k => unfold TL.spl; exact ih _ _
    exact g _ _ _
  refine ⟨?_, fun r hr => ?_⟩
  · unfold rowsT
    rw [List.length_map]
    exact ne z lineS (by rw [cl_lineS]; decide) kind_line
  · unfold rowsT at hr
    obtain ⟨l, _, rfl⟩ := List.mem_map.mp hr
    exact ne l tabS (by rw [cl_tabS]; decide) kind_tab
theorem rowsT_piece {z : Str} {r : List Str} {x : Str} (hr : r ∈ rowsT z) (hx : x ∈ r) : x.length ≤ z.length := by
  unfold rowsT at hr
  obtain ⟨l, hl, rfl⟩ := List.mem_map.mp hr
  have h1 := split_pieceL (by rw [cl_lineS]; decide) kind_line hl
  have h2 := split_pieceL (by rw [cl_tabS]; decide) kind_tab hx
  omega
theorem ok_tat {f g0 g1 g2 g3 : Addr} {fd fd0 fd1 fd2 fd3 : FuncData} (T : Txt mg) (X : TabC K B) (F : Fun K "at" "Table.at" (mth nTable 7) f fd)
    (M0 : Meth K B "check_hand" g0) (G0 : FnOk P w K mg base CX0 2 g0 fd0 ["self", "hand"] (spHand B)) (b0 : Binds K fd0 ["self", "hand"] [])
    (M1 : Meth K B "present" g1) (G1 : FnOk P w K mg base CX0 2 g1 fd1 ["self"] (spPresent B)) (b1 : Binds K fd1 ["self"] [])
    (G2 : FnOk P w K mg base CX0 1 g2 fd2 ["signs", "marks"] (spTextOf K)) (k2 : PySem.W.keepIn K (.ref g2) = true) (b2 : Binds K fd2 ["signs", "marks"] []) (m2 : mg "text_of" = some (.ref g2))
    (G3 : FnOk P w K mg base CX0 1 g3 fd3 ["text"] (spRowsOf cs)) (k3 : PySem.W.keepIn K (.ref g3) = true) (b3 : Binds K fd3 ["text"] []) (m3 : mg "rows_of" = some (.ref g3)) : FnOk P w K mg base CX0 3 f fd ["self", "hand"] (spTAt cs B) := by
  refine F.ok sc_tat (fun vs H Q E h => ?_) (fun cdv A outer s H vs Q E hr h => ?_)
  · obtain ⟨tb, h, a, S, rfl, _⟩ := h
    rfl
  · obtain ⟨tb, h, a, S, rfl, hT, hD, hO, hh, k⟩ := h
    have nd := sc_tat.nd
    have r1 : Room 1 _ := hr.mono (by decide)
    refine ⟨_, pss_cons (ps_expr (pe_meth (pv 0) X.cls M0 G0 hr b0 .nil pass0 (pa_cons (pv 1) pa_nil)))
      (pss_cons (ps_set (i := 2) nd rfl (.inl rfl) (pe_meth0 (pv 0) X.cls M1 G1 hr b1 .nil pass0))
      (pss_cons (ps_set (i := 3) nd rfl (.inl rfl) (pe_call G3 r1 (by rfl) m3 k3 b3 .nil pass0 (pa_cons (pe_call G2 r1 (by rfl) m2 k2 b2 .nil pass0 (pa_cons (pe_fld (pv 0) rfl)
        (pa_cons (pe_slice sl_list (pv 2) po_none (po_some (pe_bm PySem.F.plainAttrs_list PySem.F.slot_list_index PySem.F.type_list_index mt_index (pv 2) (pa_cons (pe_ix ix_list (pe_fld (pv 0) rfl) (pv 1) (fun _ _ => rfl)) pa_nil)))) pa_nil))) pa_nil)))
      (pss_one (ps_ret (pe_tup (pa_cons (pe_op op_sub (pe_callB call_len_seq (by rfl) T.len PySem.boot_len (pa_cons (pv 3) pa_nil)) pe_int)
        (pa_cons (pe_op op_sub (pe_callB call_len_seq (by rfl) T.len PySem.boot_len (pa_cons (pe_ix ix_list (pv 3) (pe_un un_neg pe_int) (fun _ _ => rfl)) pa_nil)) pe_int)
        (pa_cons (pe_callB call_len_str (by rfl) T.len PySem.boot_len (pa_cons (pe_ix ix_tup (pe_ix ix_list (pv 3) (pe_un un_neg pe_int) (fun _ _ => rfl)) (pe_un un_neg pe_int) (fun _ _ => rfl)) pa_nil)) pa_nil)))))))), ?_⟩
    refine ⟨_, rfl, tb, a.dx, _, rfl, hD.ob, rfl, _, rfl, tb, h, a, S, rfl, hD, hh, _, rfl, tb, a.dx, _, rfl, hD.ob, rfl, tb, a, S, rfl, hD, hO, fun D nD => ?_⟩
    have x1 := same_new (o := .lst (nV (hereR S))) nD
    have hD1 := hD.same x1
    have h1 : upd H D (.lst (nV (hereR S))) D = some (.lst (nV (hereR S))) := upd_same
    generalize upd H D (.lst (nV (hereR S))) = H1 at x1 hD1 h1 ⊢
    have hl := hereR_len S
    have ho := hO.ol
    have hs := getD_spot hh
    obtain ⟨g1', g2', g3'⟩ := idx_nat (hO.sp _ (List.mem_of_getElem? hs))
    refine ⟨_, rfl, tb, B, a.dx, _, _, rfl, hD1.ob, X.cls, X.nSigns, rfl, _, rfl, _, rfl, .inl ⟨rfl, _, SqL.of h1⟩, _, rfl, tb, B, a.dx, _, _, rfl, hD1.ob, X.cls, X.nSpots, rfl, _, rfl, a.sp, _, _, _, rfl, rfl, SqL.of hD1.sp, atI_nat (nV_get hs), D, nV (hereR S), .int (S.spots.getD h 0 : Nat), (hereR S).idxOf (S.spots.getD h 0), .int (S.spots.getD h 0 : Nat), rfl, rfl, SqL.of h1, rfl, ints_flat _, nV_get g1', by simp [eqV], ints_no g3', ?_⟩
    refine ⟨_, rfl, D, _, rfl, SqL.of h1, fun p np => ?_⟩
    rw [cut_toV]
    have e1 : (nV (hereR S)).take ((hereR S).idxOf (S.spots.getD h 0)) = nV ((hereR S).take ((hereR S).idxOf (S.spots.getD h 0))) := by unfold nV; rw [List.map_take]
    rw [e1]
    have hR : atR S h = ((rowsT (textR S.signs ((hereR S).take ((hereR S).idxOf (S.spots.getD h 0))))).length - 1, ((rowsT (textR S.signs ((hereR S).take ((hereR S).idxOf (S.spots.getD h 0))))).getLast?.getD []).length - 1, (((rowsT (textR S.signs ((hereR S).take ((hereR S).idxOf (S.spots.getD h 0))))).getLast?.getD []).getLast?.getD "").length) := rfl
    have lm : ∀ m ∈ (hereR S).take ((hereR S).idxOf (S.spots.getD h 0)), m < S.signs.length := fun m hm => hereR_lt hO m (List.mem_of_mem_take hm)
    have ll : ((hereR S).take ((hereR S).idxOf (S.spots.getD h 0))).length ≤ 9000 := by rw [List.length_take]; omega
    generalize (hereR S).take ((hereR S).idxOf (S.spots.getD h 0)) = ms at hR lm ll ⊢
    have x2 := same_new (o := .lst (nV ms)) np
    refine ⟨a.sg, p, S.signs, ms, rfl, SqL.of (x2 _ _ hD1.sg), SqL.of upd_same, lm, by omega, hO.one, fun H3 x3 => ?_⟩
    have e3 := same_ex (same_trans x1 (same_trans x2 x3)) hT
    have tl := textR_len (marks := ms) hO.one
    refine ⟨_, rfl, e3.tab, by omega, fun r ps H4 x4 nr hr4 hps => ?_⟩
    obtain ⟨r1', r2'⟩ := rowsT_1 (textR S.signs ms)
    obtain ⟨q, hq1, hq2⟩ := rowsAt_last hps r1'
    have hlast : (rowsT (textR S.signs ms)).getLast?.getD [] ∈ rowsT (textR S.signs ms) := by
      cases e : (rowsT (textR S.signs ms)).getLast? with
      | none => rw [List.getLast?_eq_none_iff.mp e] at r1'; simp at r1'
      | some x => exact List.mem_of_getLast? e
    have r3' := r2' _ hlast
    have r4' : ((((rowsT (textR S.signs ms)).getLast?.getD [])).getLast?.getD "").length ≤ 9000 := by
      cases e : ((rowsT (textR S.signs ms)).getLast?.getD []).getLast? with
      | none => exact Nat.zero_le _
      | some x =>
        have := rowsT_piece hlast (List.mem_of_getLast? e)
        show x.length ≤ 9000
        omega
    have hk := k
    rw [hR] at hk
    generalize rowsT (textR S.signs ms) = R at hps r1' hk hq2 r3' r4'
    have szl : (9000 : Nat) < sizeLine := by decide
    have pl := hps.len
    refine ⟨_, rfl, r, _, rfl, .inl (SqL.of hr4), _, _, rfl, rfl, _, rfl, 1, rfl, r, _, _, _, rfl, rfl, SqL.of hr4, hq1, q, _, rfl, .inr (SqT.of hq2), _, _, rfl, rfl, _, rfl, 1, rfl, r, _, _, _, rfl, rfl, SqL.of hr4, hq1, 1, rfl, q, _, _, _, rfl, rfl, SqT.of hq2, atZ_lastT r3', _, rfl, ?_, by show 3 ≤ sizeLine; decide, fun t nt => ?_⟩
    · omega
    · refine hk t _ (e3.trans (x4.trans (Ex.laid x4.tab nt))) ?_
      rw [upd_same]
      have f1 : (((ps.map V.ref).length : Nat) : Int) - 1 = ((R.length - 1 : Nat) : Int) := by rw [List.length_map]; omega
      have f2 : (((sV (R.getLast?.getD [])).length : Nat) : Int) - 1 = (((R.getLast?.getD []).length - 1 : Nat) : Int) := by unfold sV; rw [List.length_map]; omega
      dsimp only
      rw [f1, f2]
/-! ### told -/
def spTTold (B : Addr) : Sp := fun vs H Q _ => ∃ (tb : Addr) (a : TA) (S : TSt), vs = [.ref tb] ∧ TabD B H tb a S ∧ TOk S ∧ ∀ (D : Addr) (H' : Hp), TupL H D (S.deeds.map toldV) H' → Q (.ref D) H'
abbrev nmTold2 : List Str := ["self", "hand", "sign", "mark", "stands"]
theorem sc_ttold : FnScope nmTold2 ["self"] (defScope (mth nTable 10)) := ⟨rfl, rfl, rfl, by decide +kernel, rfl, by decide +kernel, by decide +kernel⟩
theorem ok_ttold {f : Addr} {fd : FuncData} (X : TabC K B) (F : Fun K "told" "Table.told" (mth nTable 10) f fd) : FnOk P w K mg base CX0 1 f fd ["self"] (spTTold B) := by
  refine F.ok sc_ttold (fun vs H Q E h => ?_) (fun cdv A outer s H vs Q E hr h => ?_)
  · obtain ⟨tb, a, S, rfl, _⟩ := h
    rfl
  · obtain ⟨tb, a, S, rfl, hD, hO, k⟩ := h
    have nd := sc_ttold.nd
    have szl : (9000 : Nat) < sizeLine := by decide
    refine ⟨_, pss_one (ps_ret (pe_lc (own := [("hand", 1), ("sign", 2), ("mark", 3), ("stands", 4)]) (g := gTup K 4 (gCons (gName 1) (gCons (gName 2) (gCons (gName 3) (gCons (gName 4) gNil))))) (tt := tYes) rfl nd (pi_list (pe_fld (pv 0) rfl)) (blkOk_by (own := [("hand", 1), ("sign", 2), ("mark", 3), ("stands", 4)]) (N := nmTold2) (sc := defScope (mth nTable 10)) (by decide +kernel))
      (fun _ _ _ _ _ => pg_tup rfl (pgs_cons (pg_name (i := 1) nd rfl (.inl rfl) (.inr rfl)) (pgs_cons (pg_name (i := 2) nd rfl (.inl rfl) (.inr rfl)) (pgs_cons (pg_name (i := 3) nd rfl (.inl rfl) (.inr rfl)) (pgs_cons (pg_name (i := 4) nd rfl (.inl rfl) (.inr rfl)) pgs_nil))))) (fun _ _ _ _ _ => pts_nil)
      (fun _ _ _ _ _ => pe_tup (pa_cons (pv 1) (pa_cons (pv 2) (pa_cons (pv 4) pa_nil)))))), ?_⟩
    refine ⟨_, rfl, tb, B, a.dx, _, _, rfl, hD.ob, X.cls, X.nDeeds, rfl, a.dl, rfl, ⟨_, SqL.of hD.de.lst⟩, fun D nD => lc_list (xs := a.da.map V.ref) (fun i H' => TupL H D ((S.deeds.take i).map toldV) H') (TupL.start nD) (fun i H' _ o => SqL.of (o.sm _ _ hD.de.lst)) ?_ ?_⟩
    · rintro i x H1 hx o
      obtain ⟨t, ht, rfl⟩ := get_map hx
      obtain ⟨d, hd⟩ := getP (xs := S.deeds) (i := i) (by rw [← hD.de.len]; exact (List.getElem?_eq_some_iff.mp ht).1)
      have h3 := o.sm _ _ (hD.de.at_ i t d ht hd)
      have li := (List.getElem?_eq_some_iff.mp hd).1
      have dn := hO.dn
      refine ⟨t, _, rfl, .inl (.inl h3), rfl, _, _, rfl, _, _, rfl, _, _, rfl, _, _, rfl, rfl, rfl, _, rfl, _, rfl, _, rfl, by show 3 ≤ sizeLine; decide, fun p np => ?_⟩
      have o4 := o.grow (same_new (o := .tup [.int (d.1 : Nat), .str d.2.1, .bl d.2.2.2]) np)
      obtain ⟨acc, q1, q2, q3⟩ := o4.more (t := p) (v := toldV d) upd_same
      refine ⟨acc, q1, by rw [q2, List.length_map, List.length_take]; omega, ?_⟩
      rw [List.take_add_one, hd, Option.toList_some, List.map_append]
      exact q3
    · rintro H1 o
      have e : S.deeds.take (a.da.map V.ref).length = S.deeds := List.take_of_length_le (by rw [List.length_map, hD.de.len]; exact Nat.le_refl _)
      rw [e] at o
      exact k D H1 o
end
end TG

namespace TG
open PySem PySem.Spec PyProof.Rows L2 Gx
/-! ### what is told of a def, told otherwise -/
section
variable {P : Program} {w : World} {K : PySem.W.Frag} {mg : Str → Option Value} {base : Heap} {k : Nat} {f : Addr} {fd : FuncData} {ps : List Str} {sp sp1 sp2 : Sp}
/-- a def that may raise, where it doesn't -/
def noE (sp : Sp) : Sp := fun vs H Q _ => sp vs H Q fun _ _ _ => False
theorem fn0_of (F : FnOk P w K mg base (L2.CX P w) k f fd ps sp) : FnOk P w K mg base CX0 k f fd ps (noE sp) := by
  refine ⟨fun vs H Q E h => F.len vs H Q _ h, fun A outer s H args us vs Q E hr e0 b r h => ?_⟩
  refine codeAny_mono (F.run A outer s H args us vs Q (fun _ _ _ => False) hr e0 b r h) fun r' s' hq => ?_
  cases r' with
  | error er =>
    obtain ⟨a, B, H', cls, d, _, _, _, _, _, _, _, z⟩ := hq
    exact z.elim
  | ok fl =>
    cases fl with
    | ret u => exact hq
    | next => exact hq
    | brk => exact False.elim hq
    | cont => exact False.elim hq
def orSp (sp1 sp2 : Sp) : Sp := fun vs H Q E => sp1 vs H Q E ∨ sp2 vs H Q E
theorem fn_or {CX : L2.CXT} (F1 : FnOk P w K mg base CX k f fd ps sp1) (F2 : FnOk P w K mg base CX k f fd ps sp2) : FnOk P w K mg base CX k f fd ps (orSp sp1 sp2) := by
  refine ⟨fun vs H Q E h => h.elim (F1.len vs H Q E) (F2.len vs H Q E), fun A outer s H args us vs Q E hr e0 b r h => ?_⟩
  rcases h with h | h
  · exact F1.run A outer s H args us vs Q E hr e0 b r h
  · exact F2.run A outer s H args us vs Q E hr e0 b r h
end
end TG

namespace TG
open PySem PySem.Spec PyProof.Rows L2 NdefX GenW Gx Lv
/-! ### methods that may raise -/
def tMethS (C : Addr) (m : Str) (sp : Sp) (E : L2.St → XK) (ta : TE) (t : L2.TA) : TE := fun σ H Q => ta σ H fun x H1 => ∃ a dx fs, x = .ref a ∧ H1 a = some (.ins C dx fs) ∧ fs.lookup m = none ∧ t σ H1 fun vs H2 => sp (.ref a :: vs) H2 Q (E σ)
section
variable {X : Cx} {CX : CXT} {k : Nat} {f C : Addr} {fd : FuncData} {ps : List Str} {sp : Sp} {E : L2.St → XK} {x m : Str} {p pos apos : Pos} {e o : Expr} {es : List Expr} {ta : TE} {t : L2.TA}
theorem pe_methS {pl : Sem Bool} (he : PE X o ta) (c : Cls X.K C) (hm : Meth X.K C m f) (F : FnOk X.prog X.w X.K X.mg X.base CX k f fd ps sp) (hr : Room k X.A) (hb : Binds X.K fd ps []) (hx : ∀ σ, PassesAt CX X σ (E σ)) (ha : PA X (e :: es) t)
    (hst : starEach (e :: es) X.env = (false, eval e X.env) :: starEach es X.env := by rfl) (hpl : (backTo pos (starEach es X.env)).any (·.1) = false := by rfl)
    (ht : eval (.Call (.Attribute o m apos) (e :: es) [] pos) X.env = (do
      let ov ← eval o X.env
      standAt apos.atName
      let (f, first) ← holding [ov] (getMethod ov m pl)
      callWith pos f first (backTo pos (starEach (e :: es) X.env)) (backToKw pos (keywordEach [] X.env))) := by rfl) :
    PE X (.Call (.Attribute o m apos) (e :: es) [] pos) (tMethS C m sp E ta t) := by
  refine ⟨fun pins s σ H Q I h => ?_⟩
  refine PySem.W.methodCall_KW (pl := pl) (thn (he.run pins s σ H _ I h) fun u s1 ⟨x, H1, I1, rx, a, dx, fs, ex, ea, l, q⟩ => ?_) ht
  subst ex
  obtain rfl : u = Value.ref a := rx
  refine getmeth_ok I1 ea c hm l ?_
  refine PySem.W.callWith_K (first := [.ref a]) (h₀ := X.base) I.ok.mod.kin hm.kp (thn (ha.run pos pins s1 σ H1 _ I1 q) fun us s2 ⟨vs, H2, I2, r, q2⟩ => ⟨I2.kIn, ?_⟩) hst hpl
  exact run_fnS (us := .ref a :: us) (vs := .ref a :: vs) F hr hb (hx σ) I2 (.cons rfl r) q2
end
end TG

namespace TG
open PySem PySem.Spec PyProof.Rows L2 Gx
structure ErrC (K : PySem.W.Frag) (mg : Str → Option Value) (x : Str) (C G : Addr) : Prop where
  mg_ : mg x = some (.ref C)
  exc : PySem.W.excIn K C [.type "ValueError", .type "Exception", .type "BaseException", .type "object"] "ValueError.__new__" = true
  kp : PySem.W.keepIn K (.ref C) = true
  sub : PySem.W.subIn K (.ref C) (.type "BaseException") = some true
  ty : PySem.W.typeIn K (.ref C) = some (.type "type")
  up : PySem.W.exmOne K (.ref C) (.ref G) = some true
/-! ### settle -/
def settleR (S : TSt) (signs : List Str) (order : List Nat) (deeds : List Deed) : TSt :=
  { S with signs := signs, order := order, deeds := deeds, there := thereR signs.length deeds, spots := S.spots.map (firstR order (thereR signs.length deeds)) }
structure SetOk (S : TSt) (signs : List Str) (order : List Nat) (deeds : List Deed) : Prop where
  one : ∀ z ∈ signs, z.length ≤ 1
  many : signs.length ≤ 9000
  ord : ∀ m ∈ order, m < signs.length
  ol : order.length ≤ 9000
  dm : ∀ d ∈ deeds, d.2.2.1 < signs.length
  dn : deeds.length ≤ 9000
  sp : ∀ s ∈ S.spots, s ∈ order ∧ ∃ m ∈ order.drop (order.idxOf s), (thereR signs.length deeds).getD m false = true
  pg : PgOk (rowsT (textR signs (thoseR order (thereR signs.length deeds))))
  h4 : S.spots.length ≤ 4
/-- what is there, as a page -/
abbrev pageR (signs : List Str) (order : List Nat) (deeds : List Deed) : List (List Str) := rowsT (textR signs (thoseR order (thereR signs.length deeds)))
structure SetPre (S : TSt) (signs : List Str) (order : List Nat) (deeds : List Deed) : Prop where
  one : ∀ z ∈ signs, z.length ≤ 1
  many : signs.length ≤ 9000
  ord : ∀ m ∈ order, m < signs.length
  ol : order.length ≤ 9000
  dm : ∀ d ∈ deeds, d.2.2.1 < signs.length
  dn : deeds.length ≤ 9000
  sp : ∀ s ∈ S.spots, s ∈ order ∧ ∃ m ∈ order.drop (order.idxOf s), (thereR signs.length deeds).getD m false = true
  sg : TxtSg (textR signs (thoseR order (thereR signs.length deeds)))
  h4 : S.spots.length ≤ 4
theorem firstR_mem {order : List Nat} {there : List Bool} {s : Nat} (h : ∃ m ∈ order.drop (order.idxOf s), there.getD m false = true) : firstR order there s ∈ thoseR order there := by
  obtain ⟨m, hm, ht⟩ := h
  unfold firstR
  cases e : (order.drop (order.idxOf s)).find? (fun m => there.getD m false) with
  | none => exact absurd ht (by have := List.find?_eq_none.mp e m hm; simpa using this)
  | some x =>
    exact List.mem_filter.mpr ⟨List.mem_of_mem_drop (List.mem_of_find?_eq_some e), List.find?_some (p := fun m => there.getD m false) e⟩
theorem SetOk.tok {S : TSt} {signs : List Str} {order : List Nat} {deeds : List Deed} (h : SetOk S signs order deeds) (o : TOk S) (hl : S.deeds.length ≤ deeds.length) : TOk (settleR S signs order deeds) :=
  ⟨h.one, h.many, h.ord, h.ol, thereR_len _ _, h.dm, h.dn, fun s hs => by
    obtain ⟨s0, h0, rfl⟩ := List.mem_map.mp hs
    exact firstR_mem (h.sp s0 h0).2, by show (S.spots.map _).length = _; rw [List.length_map]; exact o.hn, by show (S.spots.map _).length ≤ 4; rw [List.length_map]; exact o.h4, fun l hl2 => ⟨(o.un l hl2).1, fun n hn => Nat.lt_of_lt_of_le ((o.un l hl2).2 n hn) hl⟩⟩
section
variable {P : Program} {w : World} {K : PySem.W.Frag} {mg : Str → Option Value} {base : Heap} {cs : List (Addr × Addr)} {B : Addr}
abbrev setA (a : TA) (sg od th dl sp : Addr) (da : List Addr) : TA := { a with sg := sg, od := od, th := th, dl := dl, sp := sp, da := da }
theorem fs4 (a : TA) (sg od th dl : Addr) : putF "there" (.ref th) (putF "deeds" (.ref dl) (putF "order" (.ref od) (putF "signs" (.ref sg) a.fs))) = TA.fs { a with sg := sg, od := od, dl := dl, th := th } := by
  simp only [TA.fs, putF]
  rfl
theorem fs5 (a : TA) (sp : Addr) : putF "spots" (.ref sp) a.fs = TA.fs { a with sp := sp } := by
  simp only [TA.fs, putF]
  rfl
def spSettle (cs : List (Addr × Addr)) (B C : Addr) : Sp := fun vs H Q E => ∃ (tb sg od dl : Addr) (a : TA) (S : TSt) (signs : List Str) (order : List Nat) (deeds : List Deed) (da : List Addr), vs = [.ref tb, .ref sg, .ref od, .ref dl] ∧ Tabs cs H ∧ TabD B H tb a S ∧
  H sg = some (.lst (sV signs)) ∧ H od = some (.lst (nV order)) ∧ DeedsAt H dl da deeds ∧ (∀ c ∈ a.ud :: a.ua, c ≠ sg ∧ c ≠ od ∧ c ≠ dl) ∧ SetPre S signs order deeds ∧
  (PgOk (pageR signs order deeds) →
  ∀ (th sp : Addr) (H' : Hp), H th = none → H sp = none → (∀ c o, H c = some o → NT cs c o → c ≠ tb → H' c = some o) → Tabs cs H' → (∀ b, H' b = none → H b = none) → TabD B H' tb (setA a sg od th dl sp da) (settleR S signs order deeds) → Q .non H') ∧
  (¬ PgOk (pageR signs order deeds) → ∀ H', Ex cs H H' → E (.ref C) none H')
abbrev nmSet : List Str := ["self", "signs", "order", "deeds", "there", "rows", "spot"]
theorem sc_settle : FnScope nmSet ["self", "signs", "order", "deeds"] (defScope (mth nTable 16)) := ⟨rfl, rfl, rfl, by decide +kernel, rfl, by decide +kernel, by decide +kernel⟩
theorem pageAt_of {r : Addr} {ps : List Addr} {rows : List (List Str)} {H : Hp} (h : H r = some (.lst (ps.map V.ref))) (p : RowsAt ps rows H) : PageAt K H r ps rows := ⟨SqL.of h, p.len, fun i q z h1 h2 => SqT.of (p.row i q z h1 h2)⟩
theorem ok_settle {C G : Addr} {f g1 g2 g3 g4 g5 g6 : Addr} {fd fd1 fd2 fd3 fd4 fd5 fd6 : FuncData} (T : Txt mg) (Er : ErrC K mg "TooMuch" C G) (X : TabC K B) (F : Fun K "settle" "Table.settle" (mth nTable 16) f fd)
    (G1 : FnOk P w K mg base CX0 1 g1 fd1 ["many", "deeds"] (spMarks K)) (k1 : PySem.W.keepIn K (.ref g1) = true) (b1 : Binds K fd1 ["many", "deeds"] []) (m1 : mg "marks_there" = some (.ref g1))
    (G2 : FnOk P w K mg base CX0 1 g2 fd2 ["order", "there"] (spThose K)) (k2 : PySem.W.keepIn K (.ref g2) = true) (b2 : Binds K fd2 ["order", "there"] []) (m2 : mg "those_there" = some (.ref g2))
    (G3 : FnOk P w K mg base CX0 1 g3 fd3 ["signs", "marks"] (spTextOf K)) (k3 : PySem.W.keepIn K (.ref g3) = true) (b3 : Binds K fd3 ["signs", "marks"] []) (m3 : mg "text_of" = some (.ref g3))
    (G4 : FnOk P w K mg base CX0 1 g4 fd4 ["text"] (spRowsOf cs)) (k4 : PySem.W.keepIn K (.ref g4) = true) (b4 : Binds K fd4 ["text"] []) (m4 : mg "rows_of" = some (.ref g4))
    (G5 : FnOk P w K mg base CX0 10 g5 fd5 ["rows"] (orSp (spCheck K cs) (spMisB K cs))) (k5 : PySem.W.keepIn K (.ref g5) = true) (b5 : Binds K fd5 ["rows"] []) (m5 : mg "first_misfit" = some (.ref g5))
    (G6 : FnOk P w K mg base CX0 1 g6 fd6 ["order", "there", "spot"] (spFirst K)) (k6 : PySem.W.keepIn K (.ref g6) = true) (b6 : Binds K fd6 ["order", "there", "spot"] []) (m6 : mg "first_there" = some (.ref g6)) :
    FnOk P w K mg base (L2.CX P w) 11 f fd ["self", "signs", "order", "deeds"] (spSettle cs B C) := by
  refine F.okX sc_settle (fun vs H Q E h => ?_) (fun cdv A outer s H vs Q E hr h => ?_)
  · obtain ⟨tb, sg, od, dl, a, S, signs, order, deeds, da, rfl, _⟩ := h
    rfl
  · obtain ⟨tb, sg, od, dl, a, S, signs, order, deeds, da, rfl, hT, hD, hsg, hod, hdl, hn, hO, k, kx⟩ := h
    have nd := sc_settle.nd
    have r1 : Room 1 _ := hr.mono (by decide)
    refine ⟨_, pss_cons (ps_set (i := 4) nd rfl (.inr rfl) (pe_call G1 r1 (by rfl) m1 k1 b1 .nil pass0 (pa_cons (pe_callB call_len_seq (by rfl) T.len PySem.boot_len (pa_cons (pv 1) pa_nil)) (pa_cons (pv 3) pa_nil))))
      (pss_cons (ps_set (i := 5) nd rfl (.inl rfl) (pe_call G4 r1 (by rfl) m4 k4 b4 .nil pass0 (pa_cons (pe_call G3 r1 (by rfl) m3 k3 b3 .nil pass0 (pa_cons (pv 1) (pa_cons (pe_call G2 r1 (by rfl) m2 k2 b2 .nil pass0 (pa_cons (pv 2) (pa_cons (pv 4) pa_nil))) pa_nil))) pa_nil)))
      (pss_cons (ps_if (pt_cmpR op_notN (pe_call G5 hr (by rfl) m5 k5 b5 .nil pass0 (pa_cons (pv 5) pa_nil)) pe_non (nomark _)) (pss_one (ps_raise rfl (takes_of rfl rfl rfl rfl) (pmk_own PySem.F.excBase_ValueError Er.exc Er.mg_ Er.kp (raises_own Er.sub Er.ty) rfl))) pss_nil)
      (pss_cons (ps_fld (pv 0) (pv 1) rfl) (pss_cons (ps_fld (pv 0) (pv 2) rfl) (pss_cons (ps_fld (pv 0) (pv 3) rfl) (pss_cons (ps_fld (pv 0) (pv 4) rfl)
      (pss_one (ps_fld (pv 0) (pe_lc (own := [("spot", 6)]) (g := gName 6) (tt := tYes) rfl nd (pi_list (pe_fld (pv 0) rfl)) (blkOk_by (own := [("spot", 6)]) (N := nmSet) (sc := defScope (mth nTable 16)) (by decide +kernel))
        (fun _ _ _ _ _ => pg_name (i := 6) nd rfl (Or.inl rfl)) (fun _ _ _ _ _ => pts_nil) (fun _ _ _ _ _ => pe_call G6 r1 (by rfl) m6 k6 b6 .nil pass0 (pa_cons (pv 2) (pa_cons (pv 4) (pa_cons (pv 6) pa_nil))))) rfl)))))))), ?_⟩
    have hm := hO.many
    have hol := hO.ol
    refine ⟨_, rfl, sg, _, rfl, .inl (SqL.of hsg), _, rfl, signs.length, dl, da, deeds, by simp [sV], hdl, hO.dm, by omega, fun th H1 x1 nth hth => ?_⟩
    have tln := thereR_len signs.length deeds
    have e1 := same_ex x1 hT
    refine ⟨_, rfl, _, rfl, _, rfl, od, th, order, _, rfl, SqL.of (x1 _ _ hod), SqL.of hth, fun m hm => by rw [tln]; exact hO.ord m hm, by omega, fun D nD => ?_⟩
    have x2 := same_new (o := .lst (nV (thoseR order (thereR signs.length deeds)))) nD
    have hl : (thoseR order (thereR signs.length deeds)).length ≤ order.length := List.length_filter_le _ _
    refine ⟨sg, D, signs, _, rfl, SqL.of (x2 _ _ (x1 _ _ hsg)), SqL.of upd_same, fun m hm => hO.ord m (List.mem_filter.mp hm).1, by omega, hO.one, fun H2 x3 => ?_⟩
    have e2 := e1.trans (same_ex (same_trans x2 x3) e1.tab)
    have hth2 := x3 _ _ (x2 _ _ hth)
    have tl := textR_len (marks := thoseR order (thereR signs.length deeds)) hO.one
    refine ⟨_, rfl, e2.tab, by omega, fun r ps H3 x4 nr hr3 hps => ?_⟩
    by_cases pg : PgOk (pageR signs order deeds)
    rotate_left
    · obtain ⟨n, bn⟩ : ∃ n, BadAt (pageR signs order deeds) n := by
        rcases good_or (pageR signs order deeds) with g | g
        · exact absurd (good_pg hO.sg g) pg
        · exact g
      exact ⟨_, rfl, .inr ⟨r, ps, _, n, rfl, x4.tab, pageAt_of hr3 hps, fun q hq => ⟨(rowsT_pos _).2 q hq, fun x hx => (rowsT_sg hO.sg q hq x hx).1, fun x hx => Nat.le_trans (rowsT_sg hO.sg q hq x hx).2 (by omega)⟩, bn, fun H4 x5 => ⟨rfl, true, rfl, iteT (kx pg H4 (e2.trans (x4.trans x5)))⟩⟩⟩
    replace k := k pg
    refine ⟨_, rfl, .inl ⟨r, ps, _, rfl, x4.tab, pageAt_of hr3 hps, pg, fun H4 x5 => ?_⟩⟩
    have e4 := e2.trans (x4.trans x5)
    have hth4 := (x4.trans x5).lst hth2
    have hD4 := hD.gw e4.ext
    have hsg4 := e4.lst hsg
    have hod4 := e4.lst hod
    have hdl4 : DeedsAt H4 dl da deeds := ⟨e4.lst hdl.lst, hdl.len, fun i t d q1 q2 => e4.tup (hdl.at_ i t d q1 q2)⟩
    clear e1 e2 x1 x2 x3 x4 x5 hth hth2 nD
    refine ⟨rfl, false, rfl, iteF ?_⟩
    refine ⟨_, rfl, _, rfl, tb, B, a.dx, _, rfl, hD4.ob, X.cls, X.nSigns, by show 7 < 1000; decide, ?_⟩
    refine ⟨_, rfl, _, rfl, tb, B, a.dx, _, rfl, upd_same, X.cls, X.nOrder, by show 7 < 1000; decide, ?_⟩
    rw [upd_upd]
    refine ⟨_, rfl, _, rfl, tb, B, a.dx, _, rfl, upd_same, X.cls, X.nDeeds, by show 7 < 1000; decide, ?_⟩
    rw [upd_upd]
    refine ⟨_, rfl, _, rfl, tb, B, a.dx, _, rfl, upd_same, X.cls, X.nThere, by show 7 < 1000; decide, ?_⟩
    rw [upd_upd]
    rw [fs4]
    have nt : ∀ {c : Addr} {xs : List V}, H4 c = some (.lst xs) → c ≠ tb := fun h e => by rw [e, hD4.ob] at h; cases h
    have hb5 : upd H4 tb (.ins B a.dx { a with sg := sg, od := od, dl := dl, th := th }.fs) tb = some (.ins B a.dx { a with sg := sg, od := od, dl := dl, th := th }.fs) := upd_same
    have k5' : ∀ c o, H4 c = some o → c ≠ tb → upd H4 tb (.ins B a.dx { a with sg := sg, od := od, dl := dl, th := th }.fs) c = some o := fun c o h n => by rw [upd_ne n]; exact h
    have n5 : ∀ b, upd H4 tb (.ins B a.dx { a with sg := sg, od := od, dl := dl, th := th }.fs) b = none → H4 b = none := fun b hb => upd_old hD4.ob hb
    generalize upd H4 tb (.ins B a.dx { a with sg := sg, od := od, dl := dl, th := th }.fs) = H5 at hb5 k5' n5 ⊢
    refine ⟨_, rfl, tb, B, a.dx, _, _, rfl, hb5, X.cls, X.nSpots, rfl, a.sp, rfl, ⟨_, SqL.of (k5' _ _ hD4.sp (nt hD4.sp))⟩, fun L nL => ?_⟩
    have y5 : ∀ {o : HO}, Same H5 (upd H5 L o) := same_new nL
    refine lc_list (xs := nV S.spots) (fun i H' => H' = upd H5 L (.lst (nV ((S.spots.take i).map (firstR order (thereR signs.length deeds)))))) rfl (fun i H' _ x => by rw [x]; exact SqL.of (y5 _ _ (k5' _ _ hD4.sp (nt hD4.sp)))) ?_ ?_
    · rintro i x H' hx rfl
      obtain ⟨q, hq, rfl⟩ := get_map hx
      obtain ⟨q1, q2⟩ := hO.sp q (List.mem_of_getElem? hq)
      refine ⟨rfl, _, rfl, _, rfl, _, rfl, od, th, order, _, q, rfl, SqL.of (y5 _ _ (k5' _ _ hod4 (nt hod4))), SqL.of (y5 _ _ (k5' _ _ hth4 (nt hth4))), fun m hm => by rw [tln]; exact hO.ord m hm, by omega, q1, q2, _, upd_same, ?_, ?_⟩
      · have := hO.h4
        have szl : (9000 : Nat) < sizeLine := by decide
        rw [nV_len, List.length_map, List.length_take]
        omega
      · rw [upd_upd, List.take_add_one, hq]
        simp [nV]
    · rintro H' rfl
      have e : S.spots.take (nV S.spots).length = S.spots := List.take_of_length_le (by rw [nV_len]; exact Nat.le_refl _)
      rw [e]
      refine ⟨_, rfl, tb, B, a.dx, _, rfl, y5 _ _ hb5, X.cls, X.nSpots, by show 7 < 1000; decide, ?_⟩
      show Q .non (upd (upd H5 L (.lst (nV (S.spots.map (firstR order (thereR signs.length deeds)))))) tb (.ins B a.dx (setA a sg od th dl L da).fs))
      have nLt : L ≠ tb := fun e => by rw [e, hb5] at nL; cases nL
      have k6' : ∀ c o, H4 c = some o → c ≠ tb → upd (upd H5 L (.lst (nV (S.spots.map (firstR order (thereR signs.length deeds)))))) tb (.ins B a.dx (setA a sg od th dl L da).fs) c = some o := fun c o h n => by
        rw [upd_ne n]
        exact y5 _ _ (k5' c o h n)
      have nL4 := n5 L nL
      have ntT : ∀ {c : Addr} {xs : List V}, H4 c = some (.tup xs) → c ≠ tb := fun h e => by rw [e, hD4.ob] at h; cases h
      have nLc : ∀ {c : Addr} {o : HO}, H4 c = some o → L ≠ c := fun h e => by rw [← e, nL4] at h; cases h
      have nthc : ∀ {c : Addr} {o : HO}, H c = some o → c ≠ th := fun h e => by rw [e, nth] at h; cases h
      have nd0 := hD.nd
      rw [List.nodup_cons] at nd0
      have at4 : ∀ c ∈ a.ud :: a.ua, (∃ xs, H c = some (.lst xs)) ∧ ∃ o, H4 c = some o := fun c hc => by
        rcases List.mem_cons.mp hc with e | e
        · exact ⟨⟨_, e ▸ hD.ud⟩, _, e ▸ hD4.ud⟩
        · obtain ⟨i, hi⟩ := List.mem_iff_getElem?.mp e
          obtain ⟨l, hl⟩ := getP (xs := S.undone) (i := i) (by rw [← hD.ul]; exact (List.getElem?_eq_some_iff.mp hi).1)
          exact ⟨⟨_, hD.un i c l hi hl⟩, _, hD4.un i c l hi hl⟩
      refine k th L _ nth (e4.old _ nL4) (fun c o h n m => k6' c o (e4.any h n) m) ?_ (fun b hb => ?_) ?_
      · intro p hp
        obtain ⟨ps', h1, h2⟩ := e4.tab p hp
        exact ⟨ps', k6' _ _ h1 (fun z => by rw [z, hD4.ob] at h1; cases h1), h2⟩
      · refine e4.old b ?_
        cases e' : H4 b with
        | none => rfl
        | some u =>
          by_cases z : b = tb
          · rw [z, upd_same] at hb; cases hb
          · rw [k6' b u e' z] at hb; cases hb
      · refine ⟨upd_same, k6' _ _ hsg4 (nt hsg4), k6' _ _ hod4 (nt hod4), k6' _ _ hth4 (nt hth4), ⟨k6' _ _ hdl4.lst (nt hdl4.lst), hdl4.len, fun i t d q1 q2 => k6' _ _ (hdl4.at_ i t d q1 q2) (ntT (hdl4.at_ i t d q1 q2))⟩, by rw [upd_ne nLt, upd_same]; rfl, k6' _ _ hD4.ud (nt hD4.ud), hD4.ul, fun i u l q1 q2 => k6' _ _ (hD4.un i u l q1 q2) (nt (hD4.un i u l q1 q2)), List.nodup_cons.mpr ⟨fun h => ?_, nd0.2⟩, fun c hc => ?_⟩
        · obtain ⟨_, o, ho⟩ := at4 L h
          exact nLc ho rfl
        · rcases List.mem_cons.mp hc with e' | e'
          · rw [e']
            exact ⟨nLc hsg4, nLc hod4, nLc hth4, nLc hdl4.lst⟩
          · obtain ⟨h1, h2, h3⟩ := hn c e'
            obtain ⟨⟨xs, hx⟩, _⟩ := at4 c e'
            exact ⟨h1, h2, nthc hx, h3⟩
end
end TG

namespace TG
open PySem PySem.Spec PyProof.Rows L2 Gx
/-! ### undone -/
theorem nodup_inj {α : Type} {l : List α} (h : l.Nodup) {i j : Nat} {x : α} (h1 : l[i]? = some x) (h2 : l[j]? = some x) : i = j := by
  rw [List.nodup_iff_pairwise_ne, List.pairwise_iff_getElem] at h
  obtain ⟨a1, b1⟩ := List.getElem?_eq_some_iff.mp h1
  obtain ⟨a2, b2⟩ := List.getElem?_eq_some_iff.mp h2
  rcases Nat.lt_trichotomy i j with c | c | c
  · exact absurd (b1.trans b2.symm) (h i j a1 a2 c)
  · exact c
  · exact absurd (b2.trans b1.symm) (h j i a2 a1 c)
section
variable {B tb : Addr} {H H' : Hp} {a : TA} {S : TSt}
theorem TabD.nth (o : TabD B H tb a S) {h : Nat} (hh : h < S.undone.length) : ∃ u l, a.ua[h]? = some u ∧ S.undone[h]? = some l ∧ H u = some (.lst (nV l)) := by
  obtain ⟨u, hu⟩ := getP (xs := a.ua) (i := h) (by rw [o.ul]; exact hh)
  obtain ⟨l, hl⟩ := getP (xs := S.undone) (i := h) hh
  exact ⟨u, l, hu, hl, o.un h u l hu hl⟩
/-- one of the lists is written -/
theorem TabD.und (o : TabD B H tb a S) {h : Nat} {u : Addr} (hu : a.ua[h]? = some u) (l : List Nat) : TabD B (upd H u (.lst (nV l))) tb a { S with undone := S.undone.set h l } := by
  have mu : u ∈ a.ua := List.mem_of_getElem? hu
  have hlt := (List.getElem?_eq_some_iff.mp hu).1
  have nd := o.nd
  rw [List.nodup_cons, List.mem_cons, List.nodup_cons] at nd
  obtain ⟨d1, d2, d3, d4⟩ := o.dj u (by simp [mu])
  obtain ⟨l0, hl0⟩ := getP (xs := S.undone) (i := h) (by rw [← o.ul]; exact hlt)
  have h0 := o.un h u l0 hu hl0
  have f : ∀ {c : Addr} {x : HO}, c ≠ u → H c = some x → upd H u (.lst (nV l)) c = some x := fun n h => by rw [upd_ne n]; exact h
  have ft : ∀ {c : Addr} {us : List V}, H c = some (.tup us) → c ≠ u := fun h e => by rw [e, h0] at h; cases h
  refine ⟨f (fun e => by have := o.ob; rw [e, h0] at this; cases this) o.ob, f d1.symm o.sg, f d2.symm o.od, f d3.symm o.th, ⟨f d4.symm o.de.lst, o.de.len, fun i t dd h1 h2 => f (ft (o.de.at_ i t dd h1 h2)) (o.de.at_ i t dd h1 h2)⟩,
    f (fun e => nd.1 (.inr (e ▸ mu))) o.sp, f (fun e => nd.2.1 (e ▸ mu)) o.ud, by show _ = (S.undone.set h l).length; rw [List.length_set]; exact o.ul, fun i v m h1 h2 => ?_, o.nd, o.dj⟩
  have h2 : (S.undone.set h l)[i]? = some m := h2
  by_cases e : i = h
  · subst e
    rw [hu] at h1
    cases h1
    rw [List.getElem?_set_self (by rw [← o.ul]; exact hlt)] at h2
    cases h2
    exact upd_same
  · rw [List.getElem?_set_ne (fun z => e z.symm)] at h2
    refine f (fun z => ?_) (o.un i v m h1 h2)
    subst z
    exact e (nodup_inj nd.2.2 h1 hu)
/-- a new list is put in the place of one -/
theorem TabD.und0 (o : TabD B H tb a S) {h : Nat} {n : Addr} {l : List Nat} (hn : H n = some (.lst (nV l))) (hh : h < S.undone.length) (nn : n ≠ a.sp ∧ n ≠ a.ud ∧ n ∉ a.ua) (nm : n ≠ a.sg ∧ n ≠ a.od ∧ n ≠ a.th ∧ n ≠ a.dl) :
    TabD B (upd H a.ud (.lst ((a.ua.set h n).map V.ref))) tb { a with ua := a.ua.set h n } { S with undone := S.undone.set h l } := by
  have nd := o.nd
  rw [List.nodup_cons, List.mem_cons, List.nodup_cons] at nd
  obtain ⟨d1, d2, d3, d4⟩ := o.dj a.ud (by simp)
  have f : ∀ {c : Addr} {x : HO}, c ≠ a.ud → H c = some x → upd H a.ud (.lst ((a.ua.set h n).map V.ref)) c = some x := fun n h => by rw [upd_ne n]; exact h
  have ft : ∀ {c : Addr} {us : List V}, H c = some (.tup us) → c ≠ a.ud := fun h e => by rw [e, o.ud] at h; cases h
  have hlt : h < a.ua.length := by rw [o.ul]; exact hh
  have ms : ∀ c ∈ a.ua.set h n, c ∈ a.ua ∨ c = n := fun c hc => List.mem_or_eq_of_mem_set hc
  refine ⟨f (fun e => by have := o.ob; rw [e, o.ud] at this; cases this) o.ob, f d1.symm o.sg, f d2.symm o.od, f d3.symm o.th, ⟨f d4.symm o.de.lst, o.de.len, fun i t dd h1 h2 => f (ft (o.de.at_ i t dd h1 h2)) (o.de.at_ i t dd h1 h2)⟩,
    f (fun e => nd.1 (.inl e)) o.sp, upd_same, by show (a.ua.set h n).length = (S.undone.set h l).length; rw [List.length_set, List.length_set]; exact o.ul, fun i v m h1 h2 => ?_, ?_, fun c hc => ?_⟩
  · have h1 : (a.ua.set h n)[i]? = some v := h1
    have h2 : (S.undone.set h l)[i]? = some m := h2
    by_cases e : i = h
    · subst e
      rw [List.getElem?_set_self hlt] at h1
      rw [List.getElem?_set_self hh] at h2
      cases h1
      cases h2
      exact f nn.2.1 hn
    · rw [List.getElem?_set_ne (fun z => e z.symm)] at h1 h2
      exact f (fun z => nd.2.1 (z ▸ List.mem_of_getElem? h1)) (o.un i v m h1 h2)
  · show (a.sp :: a.ud :: a.ua.set h n).Nodup
    rw [List.nodup_cons, List.mem_cons, List.nodup_cons]
    refine ⟨fun z => ?_, fun z => ?_, ?_⟩
    · rcases z with z | z
      · exact nd.1 (.inl z)
      · rcases ms _ z with z | z
        · exact nd.1 (.inr z)
        · exact nn.1 z.symm
    · rcases ms _ z with z | z
      · exact nd.2.1 z
      · exact nn.2.1 z.symm
    · rw [List.nodup_iff_pairwise_ne, List.pairwise_iff_getElem]
      intro i j hi hj hij
      rw [List.length_set] at hi hj
      rw [List.getElem_set, List.getElem_set]
      have ne : ∀ k (hk : k < a.ua.length), a.ua[k] ≠ n := fun k hk z => nn.2.2 (z ▸ List.getElem_mem hk)
      by_cases c1 : h = i
      · rw [if_pos c1, if_neg (by omega)]
        exact (ne j hj).symm
      · rw [if_neg c1]
        by_cases c2 : h = j
        · rw [if_pos c2]
          exact ne i hi
        · rw [if_neg c2]
          exact fun z => by have := nodup_inj nd.2.2 (List.getElem?_eq_getElem hi) ((List.getElem?_eq_getElem hj).trans (congrArg some z.symm)); omega
  · have hc : c ∈ a.sp :: a.ud :: a.ua.set h n := hc
    rcases List.mem_cons.mp hc with z | z
    · exact o.dj c (by simp [z])
    · rcases List.mem_cons.mp z with z | z
      · exact o.dj c (by simp [z])
      · rcases ms _ z with z | z
        · exact o.dj c (by simp [z])
        · rw [z]; exact nm
end
/-! ### turn -/
def turnR (S : TSt) (n : Nat) (st : Bool) : List Deed := match S.deeds[n]? with
  | some d => S.deeds.set n (d.1, d.2.1, d.2.2.1, st)
  | none => S.deeds
theorem turnR_len (S : TSt) (n : Nat) (st : Bool) : (turnR S n st).length = S.deeds.length := by
  unfold turnR
  split
  · rw [List.length_set]
  · rfl
theorem setA_own {tb : Addr} {a : TA} {sg od th dl sp : Addr} {da : List Addr} {c : Addr} (h : ownT tb (setA a sg od th dl sp da) c) : ownT tb a c ∨ c = sg ∨ c = od ∨ c = th ∨ c = dl ∨ c = sp := by
  rcases h with e | e | e | e | e | e | e | e
  · exact .inl (.inl e)
  · exact .inr (.inl e)
  · exact .inr (.inr (.inl e))
  · exact .inr (.inr (.inr (.inl e)))
  · exact .inr (.inr (.inr (.inr (.inl e))))
  · exact .inr (.inr (.inr (.inr (.inr e))))
  · exact .inl (.inr (.inr (.inr (.inr (.inr (.inr (.inl e)))))))
  · exact .inl (.inr (.inr (.inr (.inr (.inr (.inr (.inr e)))))))
section
variable {P : Program} {w : World} {K : PySem.W.Frag} {mg : Str → Option Value} {base : Heap} {cs : List (Addr × Addr)} {B : Addr}
/-- what a table does, and its lists of the undone stay where they are -/
def Went2 (cs : List (Addr × Addr)) (B : Addr) (H : Hp) (tb : Addr) (a : TA) (S' : TSt) (Q : Hp → Prop) : Prop :=
  ∀ (a' : TA) (H' : Hp), a'.ud = a.ud → a'.ua = a.ua → (∀ c o, H c = some o → NT cs c o → c ≠ tb → H' c = some o) → (∀ c, ownT tb a' c → ownT tb a c ∨ H c = none) → Tabs cs H' → (∀ b, H' b = none → H b = none) → TabD B H' tb a' S' → Q H'
def spTurn (cs : List (Addr × Addr)) (B C : Addr) : Sp := fun vs H Q E => ∃ (tb : Addr) (n : Nat) (st : Bool) (a : TA) (S : TSt), vs = [.ref tb, .int (n : Nat), .bl st] ∧ Tabs cs H ∧ TabD B H tb a S ∧ n < S.deeds.length ∧ SetPre S S.signs S.order (turnR S n st) ∧
  (PgOk (pageR S.signs S.order (turnR S n st)) → Went2 cs B H tb a (settleR S S.signs S.order (turnR S n st)) fun H' => Q .non H') ∧
  (¬ PgOk (pageR S.signs S.order (turnR S n st)) → ∀ H', Ex cs H H' → E (.ref C) none H')
abbrev nmTurn : List Str := ["self", "number", "stands", "hand", "sign", "mark", "stood", "deeds"]
theorem sc_turn : FnScope nmTurn ["self", "number", "stands"] (defScope (mth nTable 15)) := ⟨rfl, rfl, rfl, by decide +kernel, rfl, by decide +kernel, by decide +kernel⟩
theorem ok_turn {C : Addr} {f g : Addr} {fd fdg : FuncData} (T : Txt mg) (X : TabC K B) (F : Fun K "turn" "Table.turn" (mth nTable 15) f fd)
    (M : Meth K B "settle" g) (G : FnOk P w K mg base (L2.CX P w) 11 g fdg ["self", "signs", "order", "deeds"] (spSettle cs B C)) (bd : Binds K fdg ["self", "signs", "order", "deeds"] []) : FnOk P w K mg base (L2.CX P w) 12 f fd ["self", "number", "stands"] (spTurn cs B C) := by
  refine F.okX sc_turn (fun vs H Q E h => ?_) (fun cdv A outer s H vs Q E hr h => ?_)
  · obtain ⟨tb, n, st, a, S, rfl, _⟩ := h
    rfl
  · obtain ⟨tb, n, st, a, S, rfl, hT, hD, hn, hO, k, kx⟩ := h
    have nd := sc_turn.nd
    refine ⟨_, pss_cons (ps_asg (pe_ix ix_list (pe_fld (pv 0) rfl) (pv 1) (fun _ _ => rfl)) (pg_tup rfl (pgs_cons (pg_name (i := 3) nd rfl (.inl rfl)) (pgs_cons (pg_name (i := 4) nd rfl (.inl rfl)) (pgs_cons (pg_name (i := 5) nd rfl (.inl rfl)) (pgs_cons (pg_name (i := 6) nd rfl (.inl rfl)) pgs_nil))))))
      (pss_cons (ps_set (i := 7) nd rfl (.inl rfl) (pe_callTy call_list_of (by rfl) T.list (by decide +kernel) (pa_cons (pe_fld (pv 0) rfl) pa_nil)))
      (pss_cons (ps_asg (pe_tup (pa_cons (pv 3) (pa_cons (pv 4) (pa_cons (pv 5) (pa_cons (pv 2) pa_nil))))) (pg_sub (pv 7) (pv 1) set_list))
      (pss_one (ps_expr (pe_methS (pv 0) X.cls M G hr bd (fun σ => passAt (takes_of rfl rfl rfl rfl) σ) (pa_cons (pe_fld (pv 0) rfl) (pa_cons (pe_fld (pv 0) rfl) (pa_cons (pv 7) pa_nil)))))))), ?_⟩
    obtain ⟨d, hd⟩ := getP (xs := S.deeds) (i := n) hn
    obtain ⟨t, ht⟩ := getP (xs := a.da) (i := n) (by rw [hD.de.len]; exact hn)
    have htd := hD.de.at_ n t d ht hd
    have ed : turnR S n st = S.deeds.set n (d.1, d.2.1, d.2.2.1, st) := by unfold turnR; rw [hd]
    refine ⟨_, rfl, tb, B, a.dx, _, _, rfl, hD.ob, X.cls, X.nDeeds, rfl, _, rfl, a.dl, _, _, .ref t, rfl, rfl, SqL.of hD.de.lst, atI_nat (by rw [List.getElem?_map, ht]; rfl), t, _, rfl, .inl (.inl htd), rfl, _, _, rfl, _, _, rfl, _, _, rfl, _, _, rfl, rfl, ?_⟩
    refine ⟨_, rfl, tb, B, a.dx, _, _, rfl, hD.ob, X.cls, X.nDeeds, rfl, a.dl, _, rfl, .inl (SqL.of hD.de.lst), fun L nL => ?_⟩
    have x1 : ∀ {o : HO}, Same H (upd H L o) := same_new nL
    refine ⟨_, rfl, _, rfl, _, rfl, _, rfl, by show 4 ≤ sizeLine; decide, fun p np => ⟨_, rfl, _, rfl, L, _, _, n, rfl, rfl, by rw [upd_ne (ne_of_none upd_same np)]; exact upd_same, ixN_nat (by rw [List.length_map, hD.de.len]; exact hn), ?_⟩⟩
    have npL : p ≠ L := fun e => by rw [e, upd_same] at np; cases np
    have np0 : H p = none := by rw [upd_ne npL] at np; exact np
    have em : (a.da.map V.ref).set n (V.ref p) = (a.da.set n p).map V.ref := by rw [List.map_set]
    dsimp only
    rw [em]
    have hx : ∀ c o, H c = some o → upd (upd (upd H L (.lst (a.da.map V.ref))) p (.tup [.int (d.1 : Nat), .str d.2.1, .int (d.2.2.1 : Nat), .bl st])) L (.lst ((a.da.set n p).map V.ref)) c = some o := fun c o h => by
      rw [upd_ne (ne_of_none h nL), upd_ne (ne_of_none h np0), upd_ne (ne_of_none h nL)]
      exact h
    have hxs : Same H (upd (upd (upd H L (.lst (a.da.map V.ref))) p (.tup [.int (d.1 : Nat), .str d.2.1, .int (d.2.2.1 : Nat), .bl st])) L (.lst ((a.da.set n p).map V.ref))) := hx
    have hp : upd (upd (upd H L (.lst (a.da.map V.ref))) p (.tup [.int (d.1 : Nat), .str d.2.1, .int (d.2.2.1 : Nat), .bl st])) L (.lst ((a.da.set n p).map V.ref)) p = some (.tup [.int (d.1 : Nat), .str d.2.1, .int (d.2.2.1 : Nat), .bl st]) := by rw [upd_ne npL, upd_same]
    have hL : upd (upd (upd H L (.lst (a.da.map V.ref))) p (.tup [.int (d.1 : Nat), .str d.2.1, .int (d.2.2.1 : Nat), .bl st])) L (.lst ((a.da.set n p).map V.ref)) L = some (.lst ((a.da.set n p).map V.ref)) := upd_same
    generalize upd (upd (upd H L (.lst (a.da.map V.ref))) p (.tup [.int (d.1 : Nat), .str d.2.1, .int (d.2.2.1 : Nat), .bl st])) L (.lst ((a.da.set n p).map V.ref)) = H1 at hxs hp hL ⊢
    clear hx
    have hD1 := hD.same hxs
    have e1 := same_ex hxs hT
    have hdl : DeedsAt H1 L (a.da.set n p) (turnR S n st) := by
      refine ⟨hL, by rw [List.length_set, turnR_len]; exact hD.de.len, fun i q dd h1 h2 => ?_⟩
      rw [ed] at h2
      by_cases e : i = n
      · subst e
        rw [List.getElem?_set_self (by rw [hD.de.len]; exact hn)] at h1
        rw [List.getElem?_set_self hn] at h2
        cases h1
        cases h2
        exact hp
      · rw [List.getElem?_set_ne (fun z => e z.symm)] at h1 h2
        exact hxs _ _ (hD.de.at_ i q dd h1 h2)
    have old : ∀ {c : Addr} {o : HO}, H c = some o → c ≠ L := fun h => ne_of_none h nL
    have ou : ∀ c ∈ a.ud :: a.ua, c ≠ a.sg ∧ c ≠ a.od ∧ c ≠ L := fun c hc => by
      obtain ⟨h1, h2, _, _⟩ := hD.dj c (List.mem_cons_of_mem _ hc)
      refine ⟨h1, h2, ?_⟩
      rcases List.mem_cons.mp hc with e | e
      · rw [e]; exact old hD.ud
      · obtain ⟨i, hi⟩ := List.mem_iff_getElem?.mp e
        obtain ⟨l, hl⟩ := getP (xs := S.undone) (i := i) (by rw [← hD.ul]; exact (List.getElem?_eq_some_iff.mp hi).1)
        exact old (hD.un i c l hi hl)
    refine ⟨_, rfl, tb, a.dx, _, rfl, hD1.ob, rfl, _, rfl, tb, B, a.dx, _, _, rfl, hD1.ob, X.cls, X.nSigns, rfl, _, rfl, tb, B, a.dx, _, _, rfl, hD1.ob, X.cls, X.nOrder, rfl, _, rfl, tb, a.sg, a.od, L, a, S, S.signs, S.order, turnR S n st, _, rfl, e1.tab, hD1, hD1.sg, hD1.od, hdl, ou, hO, fun pg th sp H2 nth nsp kk t2 o2 hD2 => ?_, fun pg H2 x2 => kx pg H2 (e1.trans x2)⟩
    refine k pg (setA a a.sg a.od th L sp (a.da.set n p)) H2 rfl rfl (fun c o h n m => kk c o (hxs c o h) n m) (fun c hc => ?_) t2 (fun b hb => e1.old b (o2 b hb)) hD2
    rcases setA_own hc with z | z | z | z | z | z
    · exact .inl z
    · exact .inl (z ▸ .inr (.inl rfl))
    · exact .inl (z ▸ .inr (.inr (.inl rfl)))
    · exact .inr (z ▸ same_old hxs nth)
    · exact .inr (z ▸ nL)
    · exact .inr (z ▸ same_old hxs nsp)
end
end TG

namespace TG
open PySem PySem.Spec PyProof.Rows L2 Gx
/-! ### back, again, rub -/
def d0 : Deed := (0, "", 0, false)
def stR (ds : List Deed) (h n : Nat) : List Nat := (List.range n).filter fun i => decide ((ds.getD i d0).1 = h) && (ds.getD i d0).2.2.2
theorem stR_succ {ds : List Deed} {h i : Nat} {d : Deed} (hd : ds[i]? = some d) : stR ds h (i + 1) = stR ds h i ++ if (decide (d.1 = h) && d.2.2.2) = true then [i] else [] := by
  have e : ds.getD i d0 = d := by rw [List.getD_eq_getElem?_getD, hd]; rfl
  unfold stR
  rw [List.range_succ, List.filter_append, List.filter_cons, List.filter_nil, e]
theorem stR_len (ds : List Deed) (h n : Nat) : (stR ds h n).length ≤ n := by
  unfold stR
  have := List.length_filter_le (fun i => decide ((ds.getD i d0).1 = h) && (ds.getD i d0).2.2.2) (List.range n)
  rw [List.length_range] at this
  exact this
theorem stR_lt {ds : List Deed} {h n m : Nat} (hm : m ∈ stR ds h n) : m < n := List.mem_range.mp (List.mem_filter.mp hm).1
theorem atN_last {l : List Nat} (h : l ≠ []) : atI (nV l) (-1) = some (.int (l.getLast?.getD 0 : Nat)) := by
  have lp : 0 < l.length := List.length_pos_iff.mpr h
  have e : ixN (nV l).length (-1) = some (l.length - 1) := by
    unfold ixN nV
    rw [List.length_map]
    simp
    omega
  unfold atI
  rw [e]
  show (nV l)[l.length - 1]? = _
  refine (nV_get (m := l.getLast?.getD 0) ?_)
  rw [List.getLast?_eq_getElem?, List.getElem?_eq_getElem (by omega)]
  rfl
/-- what going back does -/
def backR (S : TSt) (h : Nat) : Bool × TSt := match (stR S.deeds h S.deeds.length).getLast? with
  | none => (false, S)
  | some n => (true, { settleR S S.signs S.order (turnR S n false) with undone := S.undone.set h (S.undone.getD h [] ++ [n]) })
def againR (S : TSt) (h : Nat) : Bool × TSt := match (S.undone.getD h []).getLast? with
  | none => (false, S)
  | some n => (true, { settleR S S.signs S.order (turnR S n true) with undone := S.undone.set h (S.undone.getD h []).dropLast })
def rubR (S : TSt) (h m : Nat) : TSt := { settleR S S.signs S.order (S.deeds ++ [((h, ("" : Str), m, true) : Deed)]) with undone := S.undone.set h [] }
theorem ownT_eq {tb : Addr} {a : TA} {u : List Addr} {c : Addr} (h : ownT tb { a with ua := u } c) : ownT tb a c ∨ c ∈ u := by
  rcases h with e | e | e | e | e | e | e | e
  · exact .inl (.inl e)
  · exact .inl (.inr (.inl e))
  · exact .inl (.inr (.inr (.inl e)))
  · exact .inl (.inr (.inr (.inr (.inl e))))
  · exact .inl (.inr (.inr (.inr (.inr (.inl e)))))
  · exact .inl (.inr (.inr (.inr (.inr (.inr (.inl e))))))
  · exact .inl (.inr (.inr (.inr (.inr (.inr (.inr (.inl e)))))))
  · exact .inr e
section
variable {P : Program} {w : World} {K : PySem.W.Frag} {mg : Str → Option Value} {base : Heap} {cs : List (Addr × Addr)} {B C G : Addr}
def spTBack (cs : List (Addr × Addr)) (B C : Addr) : Sp := fun vs H Q E => ∃ (tb : Addr) (h : Nat) (a : TA) (S : TSt), vs = [.ref tb, .int (h : Nat)] ∧ Tabs cs H ∧ TabD B H tb a S ∧ TOk S ∧ h < S.spots.length ∧ (∀ n ∈ stR S.deeds h S.deeds.length, SetPre S S.signs S.order (turnR S n false)) ∧
  ((∀ n, (stR S.deeds h S.deeds.length).getLast? = some n → PgOk (pageR S.signs S.order (turnR S n false))) → Went cs B H tb a (backR S h).2 fun H' => Q (.bl (backR S h).1) H') ∧
  (∀ n, (stR S.deeds h S.deeds.length).getLast? = some n → ¬ PgOk (pageR S.signs S.order (turnR S n false)) → ∀ H', Ex cs H H' → E (.ref C) none H')
abbrev nmTBack : List Str := ["self", "hand", "standing", "number", "own", "sign", "mark", "stands"]
theorem sc_tback : FnScope nmTBack ["self", "hand"] (defScope (mth nTable 3)) := ⟨rfl, rfl, rfl, by decide +kernel, rfl, by decide +kernel, by decide +kernel⟩
theorem ok_tback {f g1 g2 : Addr} {fd fd1 fd2 : FuncData} (T : Txt mg) (X : TabC K B) (F : Fun K "back" "Table.back" (mth nTable 3) f fd)
    (M1 : Meth K B "check_hand" g1) (G1 : FnOk P w K mg base CX0 2 g1 fd1 ["self", "hand"] (spHand B)) (b1 : Binds K fd1 ["self", "hand"] [])
    (M2 : Meth K B "turn" g2) (G2 : FnOk P w K mg base (L2.CX P w) 12 g2 fd2 ["self", "number", "stands"] (spTurn cs B C)) (b2 : Binds K fd2 ["self", "number", "stands"] []) : FnOk P w K mg base (L2.CX P w) 13 f fd ["self", "hand"] (spTBack cs B C) := by
  refine F.okX sc_tback (fun vs H Q E h => ?_) (fun cdv A outer s H vs Q E hr h => ?_)
  · obtain ⟨tb, h, a, S, rfl, _⟩ := h
    rfl
  · obtain ⟨tb, h, a, S, rfl, hT, hD, hO, hh, hs, k, kx⟩ := h
    have nd := sc_tback.nd
    have r2 : Room 2 _ := hr.mono (by decide)
    have szl : (9000 : Nat) < sizeLine := by decide
    have dn := hO.dn
    refine ⟨_, pss_cons (ps_expr (pe_meth (pv 0) X.cls M1 G1 r2 b1 .nil pass0 (pa_cons (pv 1) pa_nil)))
      (pss_cons (ps_setLc (i := 2) (own := [("number", 3), ("own", 4), ("sign", 5), ("mark", 6), ("stands", 7)]) (g := gTup K 2 (gCons (gName 3) (gCons (gTup K 4 (gCons (gName 4) (gCons (gName 5) (gCons (gName 6) (gCons (gName 7) gNil))))) gNil))) rfl nd rfl rfl (sw_true rfl rfl rfl (by decide +kernel)) (pi_enum (by rfl) T.enum (pa_cons (pe_fld (pv 0) rfl) pa_nil)) (blkOk_by (own := [("number", 3), ("own", 4), ("sign", 5), ("mark", 6), ("stands", 7)]) (N := nmTBack) (sc := defScope (mth nTable 3)) (by decide +kernel))
        (fun _ _ _ _ _ => pg_tup rfl (pgs_cons (pg_name (i := 3) nd rfl (.inl rfl) (.inr rfl)) (pgs_cons (pg_tup rfl (pgs_cons (pg_name (i := 4) nd rfl (.inl rfl) (.inr rfl)) (pgs_cons (pg_name (i := 5) nd rfl (.inl rfl) (.inr rfl)) (pgs_cons (pg_name (i := 6) nd rfl (.inl rfl) (.inr rfl)) (pgs_cons (pg_name (i := 7) nd rfl (.inl rfl) (.inr rfl)) pgs_nil))))) pgs_nil)))
        (fun _ _ _ _ _ => pts_one (PW.pt (pw_and (pt_cmpR op_eq (pv 4) (pv 1) (nomark _)) (pw_and1 (pt_val (pv 7)))))) (fun _ _ _ _ _ => pv 3))
      (pss_cons (ps_if (pt_cmpR op_eq (pe_callB call_len_seq (by rfl) T.len PySem.boot_len (pa_cons (pv 2) pa_nil)) pe_int (nomark _)) (pss_one (ps_ret pe_bl)) pss_nil)
      (pss_cons (ps_expr (pe_methS (pv 0) X.cls M2 G2 hr b2 (fun σ => passAt (takes_of rfl rfl rfl rfl) σ) (pa_cons (pe_ix ix_list (pv 2) (pe_un un_neg pe_int) (fun _ _ => rfl)) (pa_cons pe_bl pa_nil))))
      (pss_cons (ps_expr (pe_bm PySem.F.plainAttrs_list PySem.F.slot_list_append PySem.F.type_list_append mt_append (pe_ix ix_list (pe_fld (pv 0) rfl) (pv 1) (fun _ _ => rfl)) (pa_cons (pe_ix ix_list (pv 2) (pe_un un_neg pe_int) (fun _ _ => rfl)) pa_nil)))
      (pss_one (ps_ret pe_bl)))))), ?_⟩
    refine ⟨_, rfl, tb, a.dx, _, rfl, hD.ob, rfl, _, rfl, tb, h, a, S, rfl, hD, hh, ?_⟩
    refine ⟨_, rfl, tb, B, a.dx, _, _, rfl, hD.ob, X.cls, X.nDeeds, rfl, a.dl, _, rfl, SqL.of hD.de.lst, fun D nD => lc_it (walk_enum (xs := a.da.map V.ref)) (fun i H' => Same H H' ∧ H' D = some (.lst (nV (stR S.deeds h i)))) ⟨same_new nD, upd_same⟩ (fun i H' _ x => SqL.of (x.1 _ _ hD.de.lst)) ?_ ?_⟩
    · rintro i x H3 H4 hi ⟨o1, o2⟩ ⟨Tp, v, u, rfl, hn, rfl, hv, hu⟩
      cases hv
      obtain ⟨t, ht, rfl⟩ := get_map hu
      obtain ⟨d, hd⟩ := getP (xs := S.deeds) (i := i) (by rw [← hD.de.len]; exact (List.getElem?_eq_some_iff.mp ht).1)
      have x4 : Same H3 (upd H3 Tp (.tup [.int (i : Nat), .ref t])) := same_new hn
      have hTp : upd H3 Tp (.tup [.int (i : Nat), .ref t]) Tp = some (.tup [.int (i : Nat), .ref t]) := upd_same
      generalize upd H3 Tp (.tup [.int (i : Nat), .ref t]) = H4 at x4 hTp ⊢
      have htd := x4 _ _ (o1 _ _ (hD.de.at_ i t d ht hd))
      have li := (List.getElem?_eq_some_iff.mp hd).1
      refine ⟨Tp, _, rfl, .inl (.inl hTp), rfl, _, _, rfl, _, _, rfl, ⟨t, _, rfl, .inl (.inl htd), rfl, _, _, rfl, _, _, rfl, _, _, rfl, _, _, rfl, rfl, rfl, rfl, ?_⟩⟩
      rw [stR_succ hd]
      refine ⟨_, rfl, _, rfl, rfl, _, rfl, ?_⟩
      have ei : decide (V.int (d.1 : Nat) = V.int (h : Nat)) = decide (d.1 = h) := by
        by_cases c : d.1 = h
        · rw [decide_eq_true c, c, decide_eq_true rfl]
        · rw [decide_eq_false c, decide_eq_false (fun z => c (by injection z with z; omega))]
      rw [ei]
      have sl := stR_len S.deeds h i
      have o24 := x4 _ _ o2
      have ok4 : Same H H4 := same_trans o1 x4
      have fin : (decide (d.1 = h) && d.2.2.2) = true → ∃ acc, H4 D = some (.lst acc) ∧ acc.length < sizeLine ∧ (Same H (upd H4 D (.lst (acc ++ [.int (i : Nat)]))) ∧ upd H4 D (.lst (acc ++ [.int (i : Nat)])) D = some (.lst (nV (stR S.deeds h i ++ if (decide (d.1 = h) && d.2.2.2) = true then [i] else [])))) := fun c => by
        rw [if_pos c]
        exact ⟨_, o24, by rw [nV_len]; omega, same_upd ok4 nD, by rw [upd_same]; simp [nV]⟩
      by_cases c : d.1 = h
      · rw [decide_eq_true c]
        cases e2 : d.2.2.2 with
        | true =>
          rw [decide_eq_true c, e2] at fin
          exact iteT ⟨_, rfl, true, rfl, iteT ⟨_, rfl, fin rfl⟩⟩
        | false =>
          refine iteT ⟨_, rfl, false, rfl, iteF ⟨ok4, ?_⟩⟩
          simpa using o24
      · rw [decide_eq_false c]
        refine iteF (iteF ⟨ok4, ?_⟩)
        simpa using o24
    · rintro H1 ⟨x1, hDl⟩
      have e0 : (a.da.map V.ref).length = S.deeds.length := by rw [List.length_map]; exact hD.de.len
      rw [e0] at hDl
      have hD1 := hD.same x1
      have e1 := same_ex x1 hT
      have el : (nV (stR S.deeds h S.deeds.length)).length = (stR S.deeds h S.deeds.length).length := nV_len _
      refine ⟨_, rfl, D, _, rfl, .inl (SqL.of hDl), rfl, _, rfl, ?_⟩
      rw [el]
      cases eg : (stR S.deeds h S.deeds.length).getLast? with
      | none =>
        replace k := k (fun n z => by rw [eg] at z; cases z)
        unfold backR at k
        rw [eg] at k
        rw [List.getLast?_eq_none_iff.mp eg]
        exact iteT (k a H1 (KN.same x1) (fun c hc => .inl hc) e1.tab (fun b hb => same_old x1 hb) hD1)
      | some n =>
        have mn := List.mem_of_getLast? eg
        have ne : stR S.deeds h S.deeds.length ≠ [] := fun z => by rw [z] at mn; cases mn
        have lp : 0 < (stR S.deeds h S.deeds.length).length := List.length_pos_iff.mpr ne
        have en : (stR S.deeds h S.deeds.length).getLast?.getD 0 = n := by rw [eg]; rfl
        have la := atN_last ne
        rw [en] at la
        rw [decide_eq_false (fun z => by injection z with z; omega)]
        have hu : h < S.undone.length := by rw [← hO.hn]; exact hh
        refine iteF ⟨_, rfl, tb, a.dx, _, rfl, hD1.ob, rfl, _, rfl, 1, rfl, D, _, _, _, rfl, rfl, SqL.of hDl, la, tb, n, false, a, S, rfl, e1.tab, hD1, stR_lt mn, hs n mn, fun pg a' H2 eud eua kk ho t2 o2 hD2 => ?_, fun pg H2 x2 => kx n eg pg H2 (e1.trans x2)⟩
        replace k := k (fun m z => by rw [eg] at z; cases z; exact pg)
        unfold backR at k
        rw [eg] at k
        have nDt : D ≠ tb := fun z => by have := x1 _ _ hD.ob; rw [← z, hDl] at this; cases this
        have hDl2 := kk _ _ hDl (.inl fun ps z => by cases z) nDt
        obtain ⟨u, l, q1, q2, q3⟩ := hD2.nth (h := h) (by exact hu)
        have q2' : S.undone[h]? = some l := q2
        have el2 : S.undone.getD h [] = l := by rw [List.getD_eq_getElem?_getD, q2']; rfl
        have ll := (hO.un l (List.mem_of_getElem? q2')).1
        refine ⟨_, rfl, tb, B, _, _, _, rfl, hD2.ob, X.cls, X.nUndone, rfl, _, rfl, _, _, _, .ref u, rfl, rfl, SqL.of hD2.ud, atI_nat (by rw [List.getElem?_map, q1]; rfl), .inl ⟨rfl, _, SqL.of q3⟩, _, rfl, 1, rfl, D, _, _, _, rfl, rfl, SqL.of hDl2, la, u, _, _, rfl, rfl, q3, by rw [nV_len]; omega, ?_⟩
        have ea : nV l ++ [V.int (n : Nat)] = nV (l ++ [n]) := by simp [nV]
        rw [ea]
        rw [el2] at k
        have hD3 := hD2.und q1 (l ++ [n])
        have k2 : KN cs (ownT tb a) H H2 := fun c o h m nn => kk c o (x1 c o h) m fun z => nn (.inl z)
        have hc' : ∀ c, ownT tb a' c → ownT tb a c ∨ H c = none := fun c hc => (ho c hc).imp id fun z => same_old x1 z
        have uo : ownT tb a u := .inr (.inr (.inr (.inr (.inr (.inr (.inr (by rw [← eua]; exact List.mem_of_getElem? q1)))))))
        refine k a' _ (k2.tr (upd_ownN uo)) hc' (tabs_lst t2 q3) (fun b hb => same_old x1 (o2 b (upd_old q3 hb))) hD3
end
end TG

namespace TG
open PySem PySem.Spec PyProof.Rows L2 Gx
section
variable {P : Program} {w : World} {K : PySem.W.Frag} {mg : Str → Option Value} {base : Heap} {cs : List (Addr × Addr)} {B C G : Addr}
def spTAgain (cs : List (Addr × Addr)) (B C : Addr) : Sp := fun vs H Q E => ∃ (tb : Addr) (h : Nat) (a : TA) (S : TSt), vs = [.ref tb, .int (h : Nat)] ∧ Tabs cs H ∧ TabD B H tb a S ∧ TOk S ∧ h < S.spots.length ∧ (∀ n ∈ S.undone.getD h [], SetPre S S.signs S.order (turnR S n true)) ∧
  ((∀ n, (S.undone.getD h []).getLast? = some n → PgOk (pageR S.signs S.order (turnR S n true))) → Went cs B H tb a (againR S h).2 fun H' => Q (.bl (againR S h).1) H') ∧
  (∀ n, (S.undone.getD h []).getLast? = some n → ¬ PgOk (pageR S.signs S.order (turnR S n true)) → ∀ H', Ex cs H H' → E (.ref C) none H')
theorem sc_tagain : FnScope ["self", "hand"] ["self", "hand"] (defScope (mth nTable 4)) := ⟨rfl, rfl, rfl, by decide +kernel, rfl, by decide +kernel, by decide +kernel⟩
theorem ok_tagain {f g1 g2 : Addr} {fd fd1 fd2 : FuncData} (T : Txt mg) (X : TabC K B) (F : Fun K "again" "Table.again" (mth nTable 4) f fd)
    (M1 : Meth K B "check_hand" g1) (G1 : FnOk P w K mg base CX0 2 g1 fd1 ["self", "hand"] (spHand B)) (b1 : Binds K fd1 ["self", "hand"] [])
    (M2 : Meth K B "turn" g2) (G2 : FnOk P w K mg base (L2.CX P w) 12 g2 fd2 ["self", "number", "stands"] (spTurn cs B C)) (b2 : Binds K fd2 ["self", "number", "stands"] []) : FnOk P w K mg base (L2.CX P w) 13 f fd ["self", "hand"] (spTAgain cs B C) := by
  refine F.okX sc_tagain (fun vs H Q E h => ?_) (fun cdv A outer s H vs Q E hr h => ?_)
  · obtain ⟨tb, h, a, S, rfl, _⟩ := h
    rfl
  · obtain ⟨tb, h, a, S, rfl, hT, hD, hO, hh, hs, k, kx⟩ := h
    have r2 : Room 2 _ := hr.mono (by decide)
    refine ⟨_, pss_cons (ps_expr (pe_meth (pv 0) X.cls M1 G1 r2 b1 .nil pass0 (pa_cons (pv 1) pa_nil)))
      (pss_cons (ps_if (pt_cmpR op_eq (pe_callB call_len_seq (by rfl) T.len PySem.boot_len (pa_cons (pe_ix ix_list (pe_fld (pv 0) rfl) (pv 1) (fun _ _ => rfl)) pa_nil)) pe_int (nomark _)) (pss_one (ps_ret pe_bl)) pss_nil)
      (pss_cons (ps_expr (pe_methS (pv 0) X.cls M2 G2 hr b2 (fun σ => passAt (takes_of rfl rfl rfl rfl) σ) (pa_cons (pe_ix ix_list (pe_ix ix_list (pe_fld (pv 0) rfl) (pv 1) (fun _ _ => rfl)) (pe_un un_neg pe_int) (fun _ _ => rfl)) (pa_cons pe_bl pa_nil))))
      (pss_cons (ps_expr (pe_bm0 PySem.F.plainAttrs_list PySem.F.slot_list_pop PySem.F.type_list_pop mt_pop (pe_ix ix_list (pe_fld (pv 0) rfl) (pv 1) (fun _ _ => rfl))))
      (pss_one (ps_ret pe_bl))))), ?_⟩
    have hu : h < S.undone.length := by rw [← hO.hn]; exact hh
    obtain ⟨u, l, q1, q2, q3⟩ := hD.nth hu
    have el : S.undone.getD h [] = l := by rw [List.getD_eq_getElem?_getD, q2]; rfl
    have eq1 : (a.ua.map V.ref)[h]? = some (.ref u) := by rw [List.getElem?_map, q1]; rfl
    refine ⟨_, rfl, tb, a.dx, _, rfl, hD.ob, rfl, _, rfl, tb, h, a, S, rfl, hD, hh, ?_⟩
    refine ⟨_, rfl, tb, B, a.dx, _, _, rfl, hD.ob, X.cls, X.nUndone, rfl, _, rfl, a.ud, _, _, .ref u, rfl, rfl, SqL.of hD.ud, atI_nat eq1, u, _, rfl, .inl (SqL.of q3), rfl, _, rfl, ?_⟩
    rw [nV_len]
    rw [el] at hs k kx
    cases eg : l.getLast? with
    | none =>
      replace k := k (fun n z => by rw [eg] at z; cases z)
      unfold againR at k
      rw [el, eg] at k
      rw [List.getLast?_eq_none_iff.mp eg]
      exact iteT (k a H (KN.same same_refl) (fun c hc => .inl hc) hT (fun b hb => hb) hD)
    | some n =>
      have mn := List.mem_of_getLast? eg
      have ne : l ≠ [] := fun z => by rw [z] at mn; cases mn
      have lp : 0 < l.length := List.length_pos_iff.mpr ne
      have en : l.getLast?.getD 0 = n := by rw [eg]; rfl
      have la := atN_last ne
      rw [en] at la
      rw [decide_eq_false (fun z => by injection z with z; omega)]
      refine iteF ⟨_, rfl, tb, a.dx, _, rfl, hD.ob, rfl, _, rfl, tb, B, a.dx, _, _, rfl, hD.ob, X.cls, X.nUndone, rfl, _, rfl, a.ud, _, _, .ref u, rfl, rfl, SqL.of hD.ud, atI_nat eq1, 1, rfl, u, _, _, _, rfl, rfl, SqL.of q3, la, tb, n, true, a, S, rfl, hT, hD, (hO.un l (List.mem_of_getElem? q2)).2 n mn, hs n mn, fun pg a' H2 eud eua kk ho t2 o2 hD2 => ?_, fun pg H2 x2 => kx n eg pg H2 x2⟩
      replace k := k (fun m z => by rw [eg] at z; cases z; exact pg)
      unfold againR at k
      rw [el, eg] at k
      have q1' : a'.ua[h]? = some u := by rw [eua]; exact q1
      have q3' : H2 u = some (.lst (nV l)) := hD2.un h u l q1' q2
      have lx : (nV l)[(nV l).length - 1]? = some (.int (n : Nat)) := by
        rw [nV_len]
        refine nV_get ?_
        rw [← en, List.getLast?_eq_getElem?, List.getElem?_eq_getElem (by omega)]
        rfl
      refine ⟨_, rfl, tb, B, _, _, _, rfl, hD2.ob, X.cls, X.nUndone, rfl, _, rfl, _, _, _, .ref u, rfl, rfl, SqL.of hD2.ud, atI_nat (by rw [List.getElem?_map, q1']; rfl), .inl ⟨rfl, _, SqL.of q3'⟩, u, _, _, rfl, rfl, q3', lx, ?_⟩
      have ea : (nV l).dropLast = nV l.dropLast := by unfold nV; rw [List.map_dropLast]
      rw [ea]
      have hD3 := hD2.und q1' l.dropLast
      have uo : ownT tb a u := .inr (.inr (.inr (.inr (.inr (.inr (.inr (List.mem_of_getElem? q1)))))))
      have k2 : KN cs (ownT tb a) H H2 := fun c o h m nn => kk c o h m fun z => nn (.inl z)
      exact k a' _ (k2.tr (upd_ownN uo)) ho (tabs_lst t2 q3') (fun b hb => o2 b (upd_old q3' hb)) hD3
/-! ### rub -/
def spTRub (cs : List (Addr × Addr)) (B C TM : Addr) : Sp := fun vs H Q E => ∃ (tb : Addr) (h : Nat) (a : TA) (S : TSt), vs = [.ref tb, .int (h : Nat)] ∧ Tabs cs H ∧ TabD B H tb a S ∧ TOk S ∧ h < S.spots.length ∧
  (∀ m, nearR S h (-1) = some m → SetPre S S.signs S.order (S.deeds ++ [((h, ("" : Str), m, true) : Deed)]) ∧ (PgOk (pageR S.signs S.order (S.deeds ++ [((h, ("" : Str), m, true) : Deed)])) → Went cs B H tb a (rubR S h m) fun H' => Q .non H') ∧ (¬ PgOk (pageR S.signs S.order (S.deeds ++ [((h, ("" : Str), m, true) : Deed)])) → ∀ H', Ex cs H H' → E (.ref TM) none H')) ∧
  (nearR S h (-1) = none → ∀ H', Ex cs H H' → E (.ref C) none H')
abbrev nmTRub : List Str := ["self", "hand", "mark"]
theorem sc_trub : FnScope nmTRub ["self", "hand"] (defScope (mth nTable 2)) := ⟨rfl, rfl, rfl, by decide +kernel, rfl, by decide +kernel, by decide +kernel⟩
theorem ok_trub {TM : Addr} {f g1 g2 g3 : Addr} {fd fd1 fd2 fd3 : FuncData} (T : Txt mg) (Er : ErrC K mg "BadCell" C G) (X : TabC K B) (F : Fun K "rub" "Table.rub" (mth nTable 2) f fd)
    (M1 : Meth K B "check_hand" g1) (G1 : FnOk P w K mg base CX0 2 g1 fd1 ["self", "hand"] (spHand B)) (b1 : Binds K fd1 ["self", "hand"] [])
    (M2 : Meth K B "near" g2) (G2 : FnOk P w K mg base CX0 3 g2 fd2 ["self", "hand", "by"] (spNear B)) (b2 : Binds K fd2 ["self", "hand", "by"] [])
    (M3 : Meth K B "settle" g3) (G3 : FnOk P w K mg base (L2.CX P w) 11 g3 fd3 ["self", "signs", "order", "deeds"] (spSettle cs B TM)) (b3 : Binds K fd3 ["self", "signs", "order", "deeds"] []) : FnOk P w K mg base (L2.CX P w) 12 f fd ["self", "hand"] (spTRub cs B C TM) := by
  refine F.okX sc_trub (fun vs H Q E h => ?_) (fun cdv A outer s H vs Q E hr h => ?_)
  · obtain ⟨tb, h, a, S, rfl, _⟩ := h
    rfl
  · obtain ⟨tb, h, a, S, rfl, hT, hD, hO, hh, ky, kn⟩ := h
    have nd := sc_trub.nd
    have r2 : Room 2 _ := hr.mono (by decide)
    have r3 : Room 3 _ := hr.mono (by decide)
    refine ⟨_, pss_cons (ps_expr (pe_meth (pv 0) X.cls M1 G1 r2 b1 .nil pass0 (pa_cons (pv 1) pa_nil)))
      (pss_cons (ps_set (i := 2) nd rfl (.inl rfl) (pe_meth (pv 0) X.cls M2 G2 r3 b2 .nil pass0 (pa_cons (pv 1) (pa_cons (pe_un un_neg pe_int) pa_nil))))
      (pss_cons (ps_if (pt_cmpR op_isN (pv 2) pe_non (nomark _)) (pss_one (ps_raise rfl (takes_of rfl rfl rfl rfl) (pmk_own PySem.F.excBase_ValueError Er.exc Er.mg_ Er.kp (raises_own Er.sub Er.ty) rfl))) pss_nil)
      (pss_cons (ps_expr (pe_methS (pv 0) X.cls M3 G3 hr b3 (fun σ => passAt (takes_of rfl rfl rfl rfl) σ) (pa_cons (pe_fld (pv 0) rfl) (pa_cons (pe_fld (pv 0) rfl) (pa_cons (pe_op op_cat (pe_fld (pv 0) rfl) (pe_lst (pa_cons (pe_tup (pa_cons (pv 1) (pa_cons pe_str (pa_cons (pv 2) (pa_cons pe_bl pa_nil))))) pa_nil))) pa_nil)))))
      (pss_one (ps_asg (pe_lst pa_nil) (pg_sub (pe_fld (pv 0) rfl) (pv 1) set_list)))))), ?_⟩
    refine ⟨_, rfl, tb, a.dx, _, rfl, hD.ob, rfl, _, rfl, tb, h, a, S, rfl, hD, hh, ?_⟩
    refine ⟨_, rfl, tb, a.dx, _, rfl, hD.ob, rfl, _, rfl, 1, rfl, tb, h, -1, a, S, rfl, hD, hO, hh, fun H1 x1 => ?_⟩
    have hD1 := hD.same x1
    have e1 := same_ex x1 hT
    cases e : nearR S h (-1) with
    | none => exact ⟨_, rfl, rfl, true, rfl, iteT (kn e H1 e1)⟩
    | some m =>
      obtain ⟨hS, k, kx⟩ := ky m e
      refine ⟨_, rfl, rfl, false, rfl, iteF ?_⟩
      have dl := hS.dn
      rw [List.length_append] at dl
      have szl : (9000 : Nat) < sizeLine := by decide
      refine ⟨_, rfl, tb, a.dx, _, rfl, hD1.ob, rfl, _, rfl, tb, B, a.dx, _, _, rfl, hD1.ob, X.cls, X.nSigns, rfl, _, rfl, tb, B, a.dx, _, _, rfl, hD1.ob, X.cls, X.nOrder, rfl, _, rfl, tb, B, a.dx, _, _, rfl, hD1.ob, X.cls, X.nDeeds, rfl, _, rfl, _, rfl, by show 4 ≤ sizeLine; decide, fun p np => ⟨by show 1 ≤ sizeLine; decide, fun q nq => ?_⟩⟩
      have y1 := same_new (o := .tup [.int (h : Nat), .str "", nonN (some m), .bl true]) np
      have y2 := same_new (o := .lst [.ref p]) nq
      have hq : upd (upd H1 p (.tup [.int (h : Nat), .str "", nonN (some m), .bl true])) q (.lst [.ref p]) q = some (.lst [.ref p]) := upd_same
      have hp := y2 _ _ (upd_same (H := H1) (a := p) (o := .tup [.int (h : Nat), .str "", nonN (some m), .bl true]))
      have yy := same_trans y1 y2
      show rCat _ _ (upd (upd H1 p (.tup [.int (h : Nat), .str "", nonN (some m), .bl true])) q (.lst [.ref p])) _
      generalize upd (upd H1 p (.tup [.int (h : Nat), .str "", nonN (some m), .bl true])) q (.lst [.ref p]) = H2 at yy hq hp ⊢
      clear y1 y2
      have hD2 := hD1.same yy
      refine ⟨a.dl, q, _, _, rfl, rfl, hD2.de.lst, hq, by rw [List.length_map, hD.de.len]; simp at dl ⊢; omega, fun L nL => ?_⟩
      have y3 : ∀ {o : HO}, Same H2 (upd H2 L o) := same_new nL
      have em : a.da.map V.ref ++ [V.ref p] = (a.da ++ [p]).map V.ref := by rw [List.map_append]; rfl
      rw [em]
      have hL : upd H2 L (.lst ((a.da ++ [p]).map V.ref)) L = some (.lst ((a.da ++ [p]).map V.ref)) := upd_same
      have hp3 := y3 (o := .lst ((a.da ++ [p]).map V.ref)) _ _ hp
      have y3' := y3 (o := .lst ((a.da ++ [p]).map V.ref))
      generalize upd H2 L (.lst ((a.da ++ [p]).map V.ref)) = H3 at y3' hL hp3 ⊢
      have x3 : Same H H3 := same_trans x1 (same_trans yy y3')
      have hD3 := hD.same x3
      have e3 := same_ex x3 hT
      have nL0 : H L = none := same_old x1 (same_old yy nL)
      have hdl : DeedsAt H3 L (a.da ++ [p]) (S.deeds ++ [((h, ("" : Str), m, true) : Deed)]) := by
        refine ⟨hL, by rw [List.length_append, List.length_append, hD.de.len]; rfl, fun i t d h1 h2 => ?_⟩
        by_cases c : i < S.deeds.length
        · rw [List.getElem?_append_left c] at h2
          rw [List.getElem?_append_left (by rw [hD.de.len]; exact c)] at h1
          exact hD3.de.at_ i t d h1 h2
        · rw [List.getElem?_append_right (by omega)] at h2
          rw [List.getElem?_append_right (by rw [hD.de.len]; omega), hD.de.len] at h1
          have z : i - S.deeds.length = 0 := by have := (List.getElem?_eq_some_iff.mp h2).1; simp at this; omega
          rw [z] at h1 h2
          cases h1
          cases h2
          exact hp3
      have ou : ∀ c ∈ a.ud :: a.ua, c ≠ a.sg ∧ c ≠ a.od ∧ c ≠ L := fun c hc => by
        obtain ⟨h1, h2, _, _⟩ := hD.dj c (List.mem_cons_of_mem _ hc)
        refine ⟨h1, h2, ?_⟩
        rcases List.mem_cons.mp hc with e | e
        · rw [e]; exact ne_of_none hD.ud nL0
        · obtain ⟨i, hi⟩ := List.mem_iff_getElem?.mp e
          obtain ⟨l, hl⟩ := getP (xs := S.undone) (i := i) (by rw [← hD.ul]; exact (List.getElem?_eq_some_iff.mp hi).1)
          exact ne_of_none (hD.un i c l hi hl) nL0
      refine ⟨tb, a.sg, a.od, L, a, S, S.signs, S.order, S.deeds ++ [((h, ("" : Str), m, true) : Deed)], _, rfl, e3.tab, hD3, hD3.sg, hD3.od, hdl, ou, hS, fun pg th sp H4 nth nsp kk t4 o4 hD4 => ?_, fun pg H4 x4 => kx pg H4 (e3.trans x4)⟩
      replace k := k pg
      have hu : h < S.undone.length := by rw [← hO.hn]; exact hh
      refine ⟨small0, fun n nn => ⟨_, rfl, tb, B, _, _, _, rfl, by rw [upd_ne (ne_of_none hD4.ob nn)]; exact hD4.ob, X.cls, X.nUndone, rfl, _, rfl, a.ud, _, _, h, rfl, rfl, by rw [upd_ne (ne_of_none hD4.ud nn)]; exact hD4.ud, ixN_nat (by rw [List.length_map, hD4.ul]; exact hu), ?_⟩⟩
      have y5 := same_new (o := .lst []) nn
      have hn5 : upd H4 n (.lst []) n = some (.lst (nV [])) := upd_same
      have n4 : ∀ {c : Addr} {o : HO}, H4 c = some o → n ≠ c := fun h z => by rw [← z, nn] at h; cases h
      generalize upd H4 n (.lst []) = H5 at y5 hn5 ⊢
      have hD5 := hD4.same y5
      have eset : (a.ua.map V.ref).set h (V.ref n) = (a.ua.set h n).map V.ref := by rw [List.map_set]
      have nua : n ∉ a.ua := fun z => by
        obtain ⟨i, hi⟩ := List.mem_iff_getElem?.mp z
        obtain ⟨l, hl⟩ := getP (xs := S.undone) (i := i) (by rw [← hD.ul]; exact (List.getElem?_eq_some_iff.mp hi).1)
        exact n4 (hD4.un i n l hi hl) rfl
      have hD6 := hD5.und0 (h := h) (l := []) hn5 hu ⟨n4 hD4.sp, n4 hD4.ud, nua⟩ ⟨n4 hD4.sg, n4 hD4.od, n4 hD4.th, n4 hD4.de.lst⟩
      dsimp only
      rw [eset]
      have n0 : H n = none := same_old x3 (o4 n nn)
      refine k _ _ (fun c o h m nn2 => ?_) (fun c hc => ?_) (tabs_lst (same_ex y5 t4).tab hD5.ud) (fun b hb => same_old x3 (o4 b (same_old y5 (upd_old hD5.ud hb)))) hD6
      · rw [upd_ne (fun z => nn2 (by rw [z]; exact .inr (.inr (.inr (.inr (.inr (.inr (.inl rfl))))))))]
        exact y5 _ _ (kk c o (x3 c o h) m fun z => nn2 (.inl z))
      · rcases ownT_eq hc with z | z
        · rcases setA_own z with z | z | z | z | z | z
          · exact .inl z
          · exact .inl (z ▸ .inr (.inl rfl))
          · exact .inl (z ▸ .inr (.inr (.inl rfl)))
          · exact .inr (z ▸ same_old x3 nth)
          · exact .inr (z ▸ nL0)
          · exact .inr (z ▸ same_old x3 nsp)
        · rcases List.mem_or_eq_of_mem_set z with z | z
          · exact .inl (.inr (.inr (.inr (.inr (.inr (.inr (.inr z)))))))
          · exact .inr (z ▸ n0)
end
end TG

namespace TG
open PySem PySem.Spec PyProof.Rows L2 Gx
/-! ### list of a text -/
def sgS (z : Str) : List Str := z.cps.toList.map fun c => (⟨#[c]⟩ : Str)
def rListS : List V → Hp → VK → Prop := fun xs H Q => ∃ z : Str, xs = [.str z] ∧ z.length ≤ sizeLine ∧ ∀ l, H l = none → Q (.ref l) (upd H l (.lst (sV (sgS z))))
theorem call_list_txt {X : Cx} (hc : X.calm = true) : CallR X (.type "list") rListS := by
  intro pins s σ H xs us Q I r h
  obtain ⟨z, rfl, hz, q⟩ := h
  obtain ⟨u, rfl, rx⟩ := vals1 r
  obtain ⟨t, rfl⟩ := rx
  refine call_list_str (I.ok.hd hc) z t (fun h' tk acc' c' hk hS hacc => ?_) hz
  refine ⟨.ref s.heap.objs.size, upd H s.heap.objs.size (.lst (sV (sgS z))), I.laid hk (Nat.le_refl _) (show ObjOk X.prog X.w _ _ _ (.lst (sV (sgS z))) from ⟨?_, acc'.toList, c', ?_, ?_⟩), rfl, q _ (I.hok.fresh (Nat.le_refl _))⟩
  · unfold sV sgS
    rw [List.length_map, List.length_map, Array.length_toList]
    exact hz
  · refine vals_of_at (by unfold sV sgS; rw [List.length_map, List.length_map, Array.length_toList, Array.length_toList, hacc.1]) fun j x w h1 h2 => ?_
    obtain ⟨c, u, hcz, rfl⟩ := hacc.2 j w (by rw [← Array.getElem?_toList]; exact h2)
    have e2 : (sV (sgS z))[j]? = some (.str ⟨#[c]⟩) := by
      unfold sV sgS
      rw [List.getElem?_map, List.getElem?_map, Array.getElem?_toList, hcz]
      rfl
    rw [e2] at h1
    cases h1
    exact ⟨u, rfl⟩
  · simpa using hS
/-! ### a table's begin -/
def startR (z : Str) (n : Nat) : TSt := ⟨sgS z ++ [("" : Str)], List.range (z.length + 1), List.replicate (z.length + 1) true, [], List.replicate n 0, List.replicate n []⟩
structure TStp (B : Addr) (H0 : Hp) (tb dx : Addr) (fs : List (Str × V)) (H : Hp) : Prop where
  ob : H tb = some (.ins B dx fs)
  kp : ∀ c o, H0 c = some o → c ≠ tb → H c = some o
  old : ∀ b, H b = none → H0 b = none
section
variable {B tb dx : Addr} {H0 H : Hp} {fs fs' : List (Str × V)}
theorem TStp.new (o : TStp B H0 tb dx fs H) {p : Addr} {x : HO} (n : H p = none) : TStp B H0 tb dx fs (upd H p x) :=
  ⟨by rw [upd_ne (ne_of_none o.ob n)]; exact o.ob, fun c u h m => by rw [upd_ne (ne_of_none (o.kp c u h m) n)]; exact o.kp c u h m, fun b hb => o.old b (upd_none hb).1⟩
theorem TStp.put (o : TStp B H0 tb dx fs H) : TStp B H0 tb dx fs' (upd H tb (.ins B dx fs')) :=
  ⟨upd_same, fun c u h m => by rw [upd_ne m]; exact o.kp c u h m, fun b hb => o.old b (upd_old o.ob hb)⟩
theorem TStp.lst (o : TStp B H0 tb dx fs H) {c : Addr} {xs : List V} (h : H c = some (.lst xs)) : c ≠ tb := fun e => by rw [e, o.ob] at h; cases h
end
section
variable {P : Program} {w : World} {K : PySem.W.Frag} {mg : Str → Option Value} {base : Heap} {cs : List (Addr × Addr)} {B : Addr}
def spTInit (K : PySem.W.Frag) (cs : List (Addr × Addr)) (B : Addr) : Sp := fun vs H Q _ => ∃ (tb p st dx : Addr) (as : List Addr) (rows : List (List Str)) (gap least : Int) (n : Nat), vs = [.ref tb, .ref p, .ref st, .int (n : Nat)] ∧ Tabs cs H ∧ H tb = some (.ins B dx []) ∧ PageAt K H p as rows ∧ PgOk rows ∧ StyleAt K H st gap least ∧ 1 ≤ n ∧ n ≤ 4 ∧
  ∀ (a : TA) (H' : Hp), (∀ c o, H c = some o → NT cs c o → c ≠ tb → H' c = some o) → (∀ c, ownT tb a c → c = tb ∨ H c = none) → Tabs cs H' → (∀ b, H' b = none → H b = none) → TabD B H' tb a (startR (pageT rows) n) → Q .non H'
abbrev nmTInit : List Str := ["self", "page", "style", "hands", "text", "hand"]
theorem sc_tinit : FnScope nmTInit ["self", "page", "style", "hands"] (defScope (mth nTable 0)) := ⟨rfl, rfl, rfl, by decide +kernel, rfl, by decide +kernel, by decide +kernel⟩
theorem ok_tinit {f g1 g2 g3 : Addr} {fd fd1 fd2 fd3 : FuncData} (T : Txt mg) (X : TabC K B) (eM : ∃ t, mg "MOST_HANDS" = some (.int 4 t)) (F : Fun K "__init__" "Table.__init__" (mth nTable 0) f fd)
    (G1 : FnOk P w K mg base CX0 12 g1 fd1 ["page"] (spWrit K cs)) (k1 : PySem.W.keepIn K (.ref g1) = true) (b1 : Binds K fd1 ["page"] []) (m1 : mg "written" = some (.ref g1))
    (G2 : FnOk P w K mg base CX0 2 g2 fd2 ["style"] (spStyle K)) (k2 : PySem.W.keepIn K (.ref g2) = true) (b2 : Binds K fd2 ["style"] []) (m2 : mg "check_style" = some (.ref g2))
    (G3 : FnOk P w K mg base CX0 1 g3 fd3 ["value", "low", "high"] spWholeB) (k3 : PySem.W.keepIn K (.ref g3) = true) (b3 : Binds K fd3 ["value", "low", "high"] []) (m3 : mg "is_whole" = some (.ref g3)) : FnOk P w K mg base CX0 13 f fd ["self", "page", "style", "hands"] (spTInit K cs B) := by
  refine F.ok sc_tinit (fun vs H Q E h => ?_) (fun cdv A outer s H vs Q E hr h => ?_)
  · obtain ⟨tb, p, st, dx, as, rows, gap, least, n, rfl, _⟩ := h
    rfl
  · obtain ⟨tb, p, st, dx, as, rows, gap, least, n, rfl, hT, hob, hP, hO, hS, n1, n4, k⟩ := h
    obtain ⟨tM, eM⟩ := eM
    have nd := sc_tinit.nd
    have r2 : Room 2 _ := hr.mono (by decide)
    have r1 : Room 1 _ := hr.mono (by decide)
    refine ⟨_, pss_cons (ps_set (i := 4) nd rfl (.inl rfl) (pe_call G1 hr (by rfl) m1 k1 b1 .nil pass0 (pa_cons (pv 1) pa_nil)))
      (pss_cons (ps_expr (pe_call G2 r2 (by rfl) m2 k2 b2 .nil pass0 (pa_cons (pv 2) pa_nil)))
      (pss_cons (ps_if (pt_not (pt_val (pe_call G3 r1 (by rfl) m3 k3 b3 .nil pass0 (pa_cons (pv 3) (pa_cons pe_int (pa_cons (pe_glob (v := .int 4) rfl eM ⟨_, rfl⟩) pa_nil)))))) (pss_one ps_never) pss_nil)
      (pss_cons (ps_fld (pv 0) (pv 2) rfl)
      (pss_cons (ps_fld (pv 0) (pe_op op_cat (pe_callTy (call_list_txt rfl) (by rfl) T.list (by decide +kernel) (pa_cons (pv 4) pa_nil)) (pe_lst (pa_cons pe_str pa_nil))) rfl)
      (pss_cons (ps_fld (pv 0) (pe_listRg rfl (by rfl) T.list (prg_1 (by rfl) T.range (pe_callB call_len_seq (by rfl) T.len PySem.boot_len (pa_cons (pe_fld (pv 0) rfl) pa_nil)))) rfl)
      (pss_cons (ps_fld (pv 0) (pe_op op_rep (pe_lst (pa_cons pe_bl pa_nil)) (pe_callB call_len_seq (by rfl) T.len PySem.boot_len (pa_cons (pe_fld (pv 0) rfl) pa_nil))) rfl)
      (pss_cons (ps_fld (pv 0) (pe_lst pa_nil) rfl)
      (pss_cons (ps_fld (pv 0) (pe_op op_rep (pe_lst (pa_cons pe_int pa_nil)) (pv 3)) rfl)
      (pss_one (ps_fld (pv 0) (pe_lc (own := [("hand", 5)]) (g := gName 5) (tt := tYes) rfl nd (pi_range1 (by rfl) T.range (pa_cons (pv 3) pa_nil)) (blkOk_by (own := [("hand", 5)]) (N := nmTInit) (sc := defScope (mth nTable 0)) (by decide +kernel))
        (fun _ _ _ _ _ => pg_name (i := 5) nd rfl (Or.inl rfl)) (fun _ _ _ _ _ => pts_nil) (fun _ _ _ _ _ => pe_lst pa_nil)) rfl)))))))))), ?_⟩
    have zl := pageT_len hO
    have szl : (9000 : Nat) < sizeLine := by decide
    refine ⟨_, rfl, p, as, rows, rfl, hT, hP, hO, fun H1 x1 => ⟨_, rfl, st, gap, least, rfl, ⟨x1.sqT hS.tup, hS.g0, hS.g1, hS.l0, hS.l1⟩, ?_⟩⟩
    generalize hz : pageT rows = z at k zl ⊢
    have hob1 : H1 tb = some (.ins B dx []) := x1.ext _ _ hob fun ps q => by cases q
    refine ⟨_, rfl, _, _, _, rfl, true, by rw [decide_eq_true ⟨by omega, by omega⟩], iteF ?_⟩
    have A1 : TStp B H1 tb dx [] H1 := ⟨hob1, fun c o h _ => h, fun b hb => hb⟩
    have l0 : ((sgS z).length : Nat) = z.length := by unfold sgS; rw [List.length_map, Array.length_toList]; rfl
    -- style
    refine ⟨_, rfl, _, rfl, tb, B, dx, _, rfl, hob1, X.cls, X.nStyle, by show 0 < 1000; decide, ?_⟩
    have A2 := A1.put (fs' := putF "style" (.ref st) [])
    generalize upd H1 tb (.ins B dx (putF "style" (.ref st) [])) = H2 at A2 ⊢
    -- signs
    refine ⟨_, rfl, z, rfl, by omega, fun q1 nq1 => ⟨by show 1 ≤ sizeLine; decide, fun q2 nq2 => ?_⟩⟩
    have A3 := (A2.new (x := .lst (sV (sgS z))) nq1).new (x := .lst [V.str ""]) nq2
    have hq1 := same_new (o := .lst [V.str ""]) nq2 _ _ (upd_same (H := H2) (a := q1) (o := .lst (sV (sgS z))))
    have hq2 : upd (upd H2 q1 (.lst (sV (sgS z)))) q2 (.lst [V.str ""]) q2 = some (.lst [V.str ""]) := upd_same
    show rCat _ _ (upd (upd H2 q1 (.lst (sV (sgS z)))) q2 (.lst [V.str ""])) _
    generalize upd (upd H2 q1 (.lst (sV (sgS z)))) q2 (.lst [V.str ""]) = H3 at A3 hq1 hq2 ⊢
    have sl : (sV (sgS z)).length = z.length := by unfold sV; rw [List.length_map, l0]
    refine ⟨q1, q2, _, _, rfl, rfl, hq1, hq2, by rw [sl]; show z.length + 1 ≤ sizeLine; omega, fun sg nsg => ?_⟩
    have es : sV (sgS z) ++ [V.str ""] = sV (sgS z ++ [("" : Str)]) := by unfold sV; rw [List.map_append]; rfl
    rw [es]
    have A4 := A3.new (x := .lst (sV (sgS z ++ [("" : Str)]))) nsg
    refine ⟨_, rfl, tb, B, dx, _, rfl, A4.ob, X.cls, X.nSigns, by show 1 < 1000; decide, ?_⟩
    have hsg4 : upd H3 sg (.lst (sV (sgS z ++ [("" : Str)]))) sg = some (.lst (sV (sgS z ++ [("" : Str)]))) := upd_same
    have osg := A3.old sg nsg
    generalize upd H3 sg (.lst (sV (sgS z ++ [("" : Str)]))) = H4 at A4 hsg4 ⊢
    have A5 := A4.put (fs' := putF "signs" (.ref sg) (putF "style" (.ref st) []))
    have hsg5 : upd H4 tb (.ins B dx (putF "signs" (.ref sg) (putF "style" (.ref st) []))) sg = some (.lst (sV (sgS z ++ [("" : Str)]))) := by rw [upd_ne (A4.lst hsg4)]; exact hsg4
    generalize upd H4 tb (.ins B dx (putF "signs" (.ref sg) (putF "style" (.ref st) []))) = H5 at A5 hsg5 ⊢
    clear A1 A2 A3 A4 hq1 hq2 hsg4
    have sl1 : (sV (sgS z ++ [("" : Str)])).length = z.length + 1 := by unfold sV; rw [List.length_map, List.length_append, l0]; rfl
    -- order
    refine ⟨_, rfl, tb, B, dx, _, _, rfl, A5.ob, X.cls, X.nSigns, rfl, sg, _, rfl, .inl (SqL.of hsg5), _, rfl, ?_, fun od nod => ?_⟩
    · rw [sl1]
      exact ⟨by omega, by omega, by omega, by omega, by omega⟩
    have eo : rgV 0 (((sV (sgS z ++ [("" : Str)])).length : Nat) : Int) = nV (List.range (z.length + 1)) := by
      rw [sl1]
      unfold rgV nV
      have : ((((z.length + 1 : Nat) : Int)) - 0).toNat = z.length + 1 := by omega
      rw [this]
      refine List.map_congr_left fun i _ => ?_
      rw [Int.zero_add]
    rw [eo]
    have A6 := A5.new (x := .lst (nV (List.range (z.length + 1)))) nod
    refine ⟨_, rfl, tb, B, dx, _, rfl, A6.ob, X.cls, X.nOrder, by show 2 < 1000; decide, ?_⟩
    have ood := A5.old od nod
    have hod6 : upd H5 od (.lst (nV (List.range (z.length + 1)))) od = some (.lst (nV (List.range (z.length + 1)))) := upd_same
    have hsg6 := same_new (o := .lst (nV (List.range (z.length + 1)))) nod _ _ hsg5
    generalize upd H5 od (.lst (nV (List.range (z.length + 1)))) = H6 at A6 hod6 hsg6 ⊢
    have A7 := A6.put (fs' := putF "order" (.ref od) (putF "signs" (.ref sg) (putF "style" (.ref st) [])))
    have pk : ∀ {c : Addr} {xs : List V}, H6 c = some (.lst xs) → upd H6 tb (.ins B dx (putF "order" (.ref od) (putF "signs" (.ref sg) (putF "style" (.ref st) [])))) c = some (.lst xs) := fun h => by rw [upd_ne (A6.lst h)]; exact h
    have hod7 := pk hod6
    have hsg7 := pk hsg6
    generalize upd H6 tb (.ins B dx (putF "order" (.ref od) (putF "signs" (.ref sg) (putF "style" (.ref st) [])))) = H7 at A7 hod7 hsg7 ⊢
    clear pk A5 A6 hod6 hsg6 hsg5
    -- there
    refine ⟨by show 1 ≤ sizeLine; decide, fun q3 nq3 => ⟨_, rfl, tb, B, dx, _, _, rfl, (A7.new nq3).ob, X.cls, X.nSigns, rfl, sg, _, rfl, .inl (SqL.of (same_new nq3 _ _ hsg7)), q3, _, _, rfl, rfl, upd_same, by omega, by rw [sl1]; omega, by rw [sl1]; show 1 * (((z.length + 1 : Nat) : Int)).toNat ≤ sizeLine; omega, fun th nth => ?_⟩⟩
    have et : (List.replicate (((sV (sgS z ++ [("" : Str)])).length : Nat) : Int).toNat [V.bl true]).flatten = bV (List.replicate (z.length + 1) true) := by
      rw [sl1]
      simp [bV]
    rw [et]
    have A8 := (A7.new (x := .lst [V.bl true]) nq3).new (x := .lst (bV (List.replicate (z.length + 1) true))) nth
    have ss8 : Same H7 (upd (upd H7 q3 (.lst [V.bl true])) th (.lst (bV (List.replicate (z.length + 1) true)))) := same_trans (same_new nq3) (same_new nth)
    have hth8 : upd (upd H7 q3 (.lst [V.bl true])) th (.lst (bV (List.replicate (z.length + 1) true))) th = some (.lst (bV (List.replicate (z.length + 1) true))) := upd_same
    have oth := A7.old th (same_old (same_new nq3) nth)
    refine ⟨_, rfl, tb, B, dx, _, rfl, A8.ob, X.cls, X.nThere, by show 3 < 1000; decide, ?_⟩
    have hod8 := ss8 _ _ hod7
    have hsg8 := ss8 _ _ hsg7
    generalize upd (upd H7 q3 (.lst [V.bl true])) th (.lst (bV (List.replicate (z.length + 1) true))) = H8 at A8 hth8 hod8 hsg8 ⊢
    have A9 := A8.put (fs' := putF "there" (.ref th) (putF "order" (.ref od) (putF "signs" (.ref sg) (putF "style" (.ref st) []))))
    have pk : ∀ {c : Addr} {xs : List V}, H8 c = some (.lst xs) → upd H8 tb (.ins B dx (putF "there" (.ref th) (putF "order" (.ref od) (putF "signs" (.ref sg) (putF "style" (.ref st) []))))) c = some (.lst xs) := fun h => by rw [upd_ne (A8.lst h)]; exact h
    have hod9 := pk hod8
    have hsg9 := pk hsg8
    have hth9 := pk hth8
    generalize upd H8 tb (.ins B dx (putF "there" (.ref th) (putF "order" (.ref od) (putF "signs" (.ref sg) (putF "style" (.ref st) []))))) = H9 at A9 hod9 hsg9 hth9 ⊢
    clear pk A7 A8 ss8 hod8 hsg8 hth8 hod7 hsg7
    -- deeds
    refine ⟨small0, fun dl ndl => ?_⟩
    have A10 := A9.new (x := .lst []) ndl
    have odl := A9.old dl ndl
    have hdl10 : upd H9 dl (.lst []) dl = some (.lst (([] : List Addr).map V.ref)) := upd_same
    have hod10 := same_new (o := .lst []) ndl _ _ hod9
    have hsg10 := same_new (o := .lst []) ndl _ _ hsg9
    have hth10 := same_new (o := .lst []) ndl _ _ hth9
    refine ⟨_, rfl, tb, B, dx, _, rfl, A10.ob, X.cls, X.nDeeds, by show 4 < 1000; decide, ?_⟩
    generalize upd H9 dl (.lst []) = H10 at A10 hdl10 hod10 hsg10 hth10 ⊢
    have A11 := A10.put (fs' := putF "deeds" (.ref dl) (putF "there" (.ref th) (putF "order" (.ref od) (putF "signs" (.ref sg) (putF "style" (.ref st) [])))))
    have pk : ∀ {c : Addr} {xs : List V}, H10 c = some (.lst xs) → upd H10 tb (.ins B dx (putF "deeds" (.ref dl) (putF "there" (.ref th) (putF "order" (.ref od) (putF "signs" (.ref sg) (putF "style" (.ref st) [])))))) c = some (.lst xs) := fun h => by rw [upd_ne (A10.lst h)]; exact h
    have hod11 := pk hod10
    have hsg11 := pk hsg10
    have hth11 := pk hth10
    have hdl11 := pk hdl10
    generalize upd H10 tb (.ins B dx (putF "deeds" (.ref dl) (putF "there" (.ref th) (putF "order" (.ref od) (putF "signs" (.ref sg) (putF "style" (.ref st) [])))))) = H11 at A11 hod11 hsg11 hth11 hdl11 ⊢
    clear pk A9 A10 hod10 hsg10 hth10 hdl10 hod9 hsg9 hth9
    -- spots
    refine ⟨by show 1 ≤ sizeLine; decide, fun q4 nq4 => ⟨_, rfl, q4, _, _, rfl, rfl, upd_same, by omega, by omega, by show 1 * (((n : Nat) : Int)).toNat ≤ sizeLine; omega, fun sp nsp => ?_⟩⟩
    have ep : (List.replicate (((n : Nat) : Int)).toNat [V.int 0]).flatten = nV (List.replicate n 0) := by simp [nV]
    rw [ep]
    have A12 := (A11.new (x := .lst [V.int 0]) nq4).new (x := .lst (nV (List.replicate n 0))) nsp
    have ss12 : Same H11 (upd (upd H11 q4 (.lst [V.int 0])) sp (.lst (nV (List.replicate n 0)))) := same_trans (same_new nq4) (same_new nsp)
    have hsp12 : upd (upd H11 q4 (.lst [V.int 0])) sp (.lst (nV (List.replicate n 0))) sp = some (.lst (nV (List.replicate n 0))) := upd_same
    have nsp11 : H11 sp = none := same_old (same_new nq4) nsp
    have osp := A11.old sp nsp11
    have spn : ∀ {c : Addr} {o : HO}, H11 c = some o → sp ≠ c := fun h e => by rw [← e, nsp11] at h; cases h
    have dsp : sp ≠ sg ∧ sp ≠ od ∧ sp ≠ th ∧ sp ≠ dl := ⟨spn hsg11, spn hod11, spn hth11, spn hdl11⟩
    refine ⟨_, rfl, tb, B, dx, _, rfl, A12.ob, X.cls, X.nSpots, by show 5 < 1000; decide, ?_⟩
    have hod12 := ss12 _ _ hod11
    have hsg12 := ss12 _ _ hsg11
    have hth12 := ss12 _ _ hth11
    have hdl12 := ss12 _ _ hdl11
    generalize upd (upd H11 q4 (.lst [V.int 0])) sp (.lst (nV (List.replicate n 0))) = H12 at A12 hsp12 hod12 hsg12 hth12 hdl12 ⊢
    have A13 := A12.put (fs' := putF "spots" (.ref sp) (putF "deeds" (.ref dl) (putF "there" (.ref th) (putF "order" (.ref od) (putF "signs" (.ref sg) (putF "style" (.ref st) []))))))
    have pk : ∀ {c : Addr} {xs : List V}, H12 c = some (.lst xs) → upd H12 tb (.ins B dx (putF "spots" (.ref sp) (putF "deeds" (.ref dl) (putF "there" (.ref th) (putF "order" (.ref od) (putF "signs" (.ref sg) (putF "style" (.ref st) []))))))) c = some (.lst xs) := fun h => by rw [upd_ne (A12.lst h)]; exact h
    have hod13 := pk hod12
    have hsg13 := pk hsg12
    have hth13 := pk hth12
    have hdl13 := pk hdl12
    have hsp13 := pk hsp12
    generalize upd H12 tb (.ins B dx (putF "spots" (.ref sp) (putF "deeds" (.ref dl) (putF "there" (.ref th) (putF "order" (.ref od) (putF "signs" (.ref sg) (putF "style" (.ref st) []))))))) = H13 at A13 hod13 hsg13 hth13 hdl13 hsp13 ⊢
    clear pk A11 A12 ss12 hod12 hsg12 hth12 hdl12 hsp12 hod11 hsg11 hth11 hdl11 spn nsp11
    -- undone
    refine ⟨_, rfl, _, rfl, by omega, by omega, fun D nD => ?_⟩
    refine lc_range (n := n) (fun i H' => Same H13 H' ∧ ∃ ua : List Addr, H' D = some (.lst (ua.map V.ref)) ∧ ua.length = i ∧ ua.Nodup ∧ ∀ u ∈ ua, H' u = some (.lst []) ∧ H13 u = none ∧ u ≠ D) ⟨same_new nD, [], upd_same, rfl, List.nodup_nil, fun u hu => by cases hu⟩ ?_ ?_
    · rintro i H' hi ⟨x, ua, w1, w2, w3, w4⟩
      refine ⟨rfl, small0, fun u nu => ?_⟩
      have nuD : u ≠ D := fun e => by rw [e, w1] at nu; cases nu
      have nu13 := same_old x nu
      have y := same_new (o := .lst []) nu
      refine ⟨_, y _ _ w1, by rw [List.length_map]; omega, same_upd (same_trans x y) nD, ua ++ [u], by rw [upd_same, List.map_append]; rfl, by rw [List.length_append, w2]; rfl, ?_, fun v hv => ?_⟩
      · rw [List.nodup_append]
        refine ⟨w3, by simp, fun a ha b hb => ?_⟩
        rw [List.mem_singleton] at hb
        rw [hb]
        exact fun e => by have := (w4 a ha).1; rw [e, nu] at this; cases this
      · rcases List.mem_append.mp hv with h | h
        · obtain ⟨a1, a2, a3⟩ := w4 v h
          exact ⟨by rw [upd_ne a3]; exact y _ _ a1, a2, a3⟩
        · rw [List.mem_singleton] at h
          subst h
          exact ⟨by rw [upd_ne nuD, upd_same], nu13, nuD⟩
    · rintro H14 ⟨x, ua, w1, w2, w3, w4⟩
      have A14 : TStp B H1 tb dx _ H14 := ⟨x _ _ A13.ob, fun c o h m => x _ _ (A13.kp c o h m), fun b hb => A13.old b (same_old x hb)⟩
      refine ⟨_, rfl, tb, B, dx, _, rfl, A14.ob, X.cls, X.nUndone, by show 6 < 1000; decide, ?_⟩
      have A15 := A14.put (fs' := putF "undone" (.ref D) (putF "spots" (.ref sp) (putF "deeds" (.ref dl) (putF "there" (.ref th) (putF "order" (.ref od) (putF "signs" (.ref sg) (putF "style" (.ref st) [])))))))
      have pk : ∀ {c : Addr} {xs : List V}, H14 c = some (.lst xs) → upd H14 tb (.ins B dx (putF "undone" (.ref D) (putF "spots" (.ref sp) (putF "deeds" (.ref dl) (putF "there" (.ref th) (putF "order" (.ref od) (putF "signs" (.ref sg) (putF "style" (.ref st) [])))))))) c = some (.lst xs) := fun h => by rw [upd_ne (A14.lst h)]; exact h
      have hod := pk (x _ _ hod13)
      have hsg := pk (x _ _ hsg13)
      have hth := pk (x _ _ hth13)
      have hdl := pk (x _ _ hdl13)
      have hsp := pk (x _ _ hsp13)
      have hD := pk w1
      have hua : ∀ u ∈ ua, _ := fun u hu => pk (w4 u hu).1
      generalize upd H14 tb (.ins B dx (putF "undone" (.ref D) (putF "spots" (.ref sp) (putF "deeds" (.ref dl) (putF "there" (.ref th) (putF "order" (.ref od) (putF "signs" (.ref sg) (putF "style" (.ref st) [])))))))) = H15 at A15 hod hsg hth hdl hsp hD hua ⊢
      have nn : ∀ {c d : Addr} {o : HO}, H13 d = none → H13 c = some o → d ≠ c := fun h1 h2 e => by rw [e, h2] at h1; cases h1
      have on : ∀ {b : Addr}, H13 b = none → H b = none := fun h => x1.old _ (A13.old _ h)
      refine k ⟨dx, st, sg, od, th, dl, sp, D, [], ua⟩ H15 (fun c o h m n => A15.kp c o (x1.any h m) n) (fun c hc => ?_) ?_ (fun b hb => x1.old b (A15.old b hb)) ⟨A15.ob, hsg, hod, hth, ⟨hdl, rfl, fun i t d h _ => by cases h⟩, hsp, hD, ?_, fun i u l h1 h2 => ?_, ?_, fun c hc => ?_⟩
      · rcases hc with e | e | e | e | e | e | e | e
        · exact .inl e
        · exact .inr (e ▸ x1.old _ osg)
        · exact .inr (e ▸ x1.old _ ood)
        · exact .inr (e ▸ x1.old _ oth)
        · exact .inr (e ▸ x1.old _ odl)
        · exact .inr (e ▸ x1.old _ osp)
        · exact .inr (e ▸ on nD)
        · exact .inr (on (w4 c e).2.1)
      · intro q hq
        obtain ⟨ps', h1, h2⟩ := x1.tab q hq
        exact ⟨ps', A15.kp _ _ h1 (fun e => by rw [e, hob1] at h1; cases h1), h2⟩
      · show ua.length = (List.replicate n ([] : List Nat)).length
        rw [w2, List.length_replicate]
      · have h2 : (List.replicate n ([] : List Nat))[i]? = some l := h2
        have : l = [] := by
          rw [List.getElem?_replicate] at h2
          split at h2
          · cases h2; rfl
          · cases h2
        rw [this]
        exact hua u (List.mem_of_getElem? h1)
      · show (sp :: D :: ua).Nodup
        rw [List.nodup_cons, List.mem_cons, List.nodup_cons]
        refine ⟨fun e => ?_, fun e => (w4 D e).2.2 rfl, w3⟩
        rcases e with e | e
        · exact nn nD hsp13 e.symm
        · exact nn (w4 sp e).2.1 hsp13 rfl
      · have hc : c ∈ sp :: D :: ua := hc
        have g : H13 c = none → c ≠ sg ∧ c ≠ od ∧ c ≠ th ∧ c ≠ dl := fun h => ⟨nn h hsg13, nn h hod13, nn h hth13, nn h hdl13⟩
        rcases List.mem_cons.mp hc with e | e
        · rw [e]; exact dsp
        · rcases List.mem_cons.mp e with e | e
          · exact g (by rw [e]; exact nD)
          · exact g (w4 c e).2.1
end
end TG

namespace TG
open PySem PySem.Spec PyProof.Rows L2 NdefX GenW Gx Lv
/-! ### press -/
theorem vstr_ne' {a b : Str} : (!decide (V.str a = V.str b)) = decide (a ≠ b) := by simp
def MarkOk (z : Str) : Prop := z = tabS ∨ z = lineS ∨ ∃ c, z = ⟨#[c]⟩ ∧ SgOk c
theorem MarkOk.len {z : Str} (h : MarkOk z) : z.length = 1 := by
  rcases h with h | h | ⟨c, h, _⟩
  · rw [h]; decide +kernel
  · rw [h]; decide +kernel
  · rw [h]; rfl
def ordP (S : TSt) (h : Nat) : List Nat := S.order.take (S.order.idxOf (S.spots.getD h 0)) ++ [S.signs.length] ++ S.order.drop (S.order.idxOf (S.spots.getD h 0))
def deedP (S : TSt) (h : Nat) (z : Str) : List Deed := S.deeds ++ [((h, z, S.signs.length, true) : Deed)]
def pressR (S : TSt) (h : Nat) (z : Str) : TSt := { settleR S (S.signs ++ [z]) (ordP S h) (deedP S h z) with undone := S.undone.set h [] }
section
variable {P : Program} {w : World} {K : PySem.W.Frag} {mg : Str → Option Value} {base : Heap} {cs : List (Addr × Addr)} {B C G : Addr}
def spFilled (cs : List (Addr × Addr)) : Sp := fun vs H Q _ => ∃ (z : Str) (m : Int), vs = [.str z, .int m] ∧ Tabs cs H ∧ (z.length : Int) ≤ m ∧ z.length ≤ 1000 ∧ (∀ c ∈ z.cps.toList, SgOk c) ∧ z ≠ ("" : Str) ∧ ∀ H', Ex cs H H' → Q (.bl true) H'
theorem sc_filled : FnScope ["value", "most"] ["value", "most"] (defScope s_filled) := ⟨rfl, rfl, rfl, by decide +kernel, rfl, by decide +kernel, by decide +kernel⟩
theorem ok_filled {f g : Addr} {fd fdg : FuncData} (F : Fun K "is_filled" "is_filled" s_filled f fd)
    (W : FnOk P w K mg base CX0 5 g fdg ["value", "most"] (spText cs)) (kp : PySem.W.keepIn K (.ref g) = true) (bd : Binds K fdg ["value", "most"] []) (mgg : mg "is_text_of_signs" = some (.ref g)) : FnOk P w K mg base CX0 6 f fd ["value", "most"] (spFilled cs) := by
  refine F.ok sc_filled (fun vs H Q E h => ?_) (fun cdv A outer s H vs Q E hr h => ?_)
  · obtain ⟨z, m, rfl, _⟩ := h
    rfl
  · obtain ⟨z, m, rfl, hT, h1, h2, h3, hn, k⟩ := h
    refine ⟨_, pss_one (ps_ret (pe_and (pe_call W hr (by rfl) mgg kp bd .nil pass0 (pa_cons (pv 0) (pa_cons (pv 1) pa_nil))) (pe_one (pe_cmpR op_ne (pv 0) pe_str (nomark _))))), ?_⟩
    refine ⟨_, rfl, _, rfl, z, m, rfl, hT, h1, h2, h3, fun H1 x1 => ⟨true, rfl, iteT ⟨_, rfl, rfl, ?_⟩⟩⟩
    rw [vstr_ne', decide_eq_true hn]
    exact k H1 x1
def spMark (cs : List (Addr × Addr)) : Sp := fun vs H Q _ => ∃ z : Str, vs = [.str z] ∧ Tabs cs H ∧ MarkOk z ∧ ∀ H', Ex cs H H' → Q .non H'
theorem sc_cmark : FnScope ["sign"] ["sign"] (defScope s_check_mark) := ⟨rfl, rfl, rfl, by decide +kernel, rfl, by decide +kernel, by decide +kernel⟩
theorem ok_cmark {f g : Addr} {fd fdg : FuncData} (eT : ∃ t, mg "TAB" = some (.str tabS t)) (eL : ∃ t, mg "LINE_END" = some (.str lineS t)) (F : Fun K "check_mark" "check_mark" s_check_mark f fd)
    (W : FnOk P w K mg base CX0 6 g fdg ["value", "most"] (spFilled cs)) (kp : PySem.W.keepIn K (.ref g) = true) (bd : Binds K fdg ["value", "most"] []) (mgg : mg "is_filled" = some (.ref g)) : FnOk P w K mg base CX0 7 f fd ["sign"] (spMark cs) := by
  refine F.ok sc_cmark (fun vs H Q E h => ?_) (fun cdv A outer s H vs Q E hr h => ?_)
  · obtain ⟨z, rfl, _⟩ := h
    rfl
  · obtain ⟨z, rfl, hT, hz, k⟩ := h
    obtain ⟨tt, eT⟩ := eT
    obtain ⟨tl, eL⟩ := eL
    refine ⟨_, pss_one (ps_if (PW.pt (pw_and (pt_cmpR op_ne (pv 0) (pe_glob (v := .str tabS) rfl eT ⟨_, rfl⟩) (nomark _)) (pw_and (pt_cmpR op_ne (pv 0) (pe_glob (v := .str lineS) rfl eL ⟨_, rfl⟩) (nomark _)) (pw_and1 (pt_not (pt_val (pe_call W hr (by rfl) mgg kp bd .nil pass0 (pa_cons (pv 0) (pa_cons pe_int pa_nil)))))))))
      (pss_one ps_never) pss_nil), ?_⟩
    refine ⟨_, rfl, rfl, _, rfl, ?_⟩
    rw [vstr_ne']
    by_cases h : z = tabS
    · rw [decide_eq_false (by simp [h])]
      exact iteF (iteF (k H (Ex.refl hT)))
    · rw [decide_eq_true h]
      refine iteT ⟨_, rfl, rfl, _, rfl, ?_⟩
      rw [vstr_ne']
      by_cases h2 : z = lineS
      · rw [decide_eq_false (by simp [h2])]
        exact iteF (iteF (k H (Ex.refl hT)))
      · rw [decide_eq_true h2]
        obtain ⟨c, rfl, hc⟩ : ∃ c, z = ⟨#[c]⟩ ∧ SgOk c := by
          rcases hz with q | q | q
          · exact absurd q h
          · exact absurd q h2
          · exact q
        refine iteT ⟨_, rfl, _, _, rfl, hT, by show ((1 : Nat) : Int) ≤ 1; omega, by show 1 ≤ 1000; omega, fun d hd => ?_, fun e => ?_, fun H1 x1 => ⟨true, rfl, iteF (k H1 x1)⟩⟩
        · have hd : d ∈ [c] := hd
          rw [List.mem_singleton] at hd
          rw [hd]
          exact hc
        · have : (⟨#[c]⟩ : Str).length = ("" : Str).length := by rw [e]
          have e0 : ("" : Str).length = 0 := by decide +kernel
          rw [e0] at this
          cases this
def spPressT (cs : List (Addr × Addr)) (B TM : Addr) : Sp := fun vs H Q E => ∃ (tb : Addr) (h : Nat) (z : Str) (a : TA) (S : TSt), vs = [.ref tb, .int (h : Nat), .str z] ∧ Tabs cs H ∧ TabD B H tb a S ∧ TOk S ∧ h < S.spots.length ∧ MarkOk z ∧
  SetPre S (S.signs ++ [z]) (ordP S h) (deedP S h z) ∧
  (PgOk (pageR (S.signs ++ [z]) (ordP S h) (deedP S h z)) → Went cs B H tb a (pressR S h z) fun H' => Q .non H') ∧
  (¬ PgOk (pageR (S.signs ++ [z]) (ordP S h) (deedP S h z)) → ∀ H', Ex cs H H' → E (.ref TM) none H')
abbrev nmPressT : List Str := ["self", "hand", "sign", "mark", "order"]
theorem sc_press : FnScope nmPressT ["self", "hand", "sign"] (defScope (mth nTable 1)) := ⟨rfl, rfl, rfl, by decide +kernel, rfl, by decide +kernel, by decide +kernel⟩
theorem ok_pressT {TM : Addr} {f g1 g2 g3 : Addr} {fd fd1 fd2 fd3 : FuncData} (T : Txt mg) (X : TabC K B) (F : Fun K "press" "Table.press" (mth nTable 1) f fd)
    (M1 : Meth K B "check_hand" g1) (G1 : FnOk P w K mg base CX0 2 g1 fd1 ["self", "hand"] (spHand B)) (b1 : Binds K fd1 ["self", "hand"] [])
    (G2 : FnOk P w K mg base CX0 7 g2 fd2 ["sign"] (spMark cs)) (k2 : PySem.W.keepIn K (.ref g2) = true) (b2 : Binds K fd2 ["sign"] []) (m2 : mg "check_mark" = some (.ref g2))
    (M3 : Meth K B "settle" g3) (G3 : FnOk P w K mg base (L2.CX P w) 11 g3 fd3 ["self", "signs", "order", "deeds"] (spSettle cs B TM)) (b3 : Binds K fd3 ["self", "signs", "order", "deeds"] []) : FnOk P w K mg base (L2.CX P w) 12 f fd ["self", "hand", "sign"] (spPressT cs B TM) := by
  refine F.okX sc_press (fun vs H Q E h => ?_) (fun cdv A outer s H vs Q E hr h => ?_)
  · obtain ⟨tb, h, z, a, S, rfl, _⟩ := h
    rfl
  · obtain ⟨tb, h, z, a, S, rfl, hT, hD, hO, hh, hz, hS, k, kx⟩ := h
    have nd := sc_press.nd
    have r2 : Room 2 _ := hr.mono (by decide)
    have r7 : Room 7 _ := hr.mono (by decide)
    refine ⟨_, pss_cons (ps_expr (pe_meth (pv 0) X.cls M1 G1 r2 b1 .nil pass0 (pa_cons (pv 1) pa_nil)))
      (pss_cons (ps_expr (pe_call G2 r7 (by rfl) m2 k2 b2 .nil pass0 (pa_cons (pv 2) pa_nil)))
      (pss_cons (ps_set (i := 3) nd rfl (.inl rfl) (pe_callB call_len_seq (by rfl) T.len PySem.boot_len (pa_cons (pe_fld (pv 0) rfl) pa_nil)))
      (pss_cons (ps_set (i := 4) nd rfl (.inl rfl) (pe_callTy call_list_of (by rfl) T.list (by decide +kernel) (pa_cons (pe_fld (pv 0) rfl) pa_nil)))
      (pss_cons (ps_expr (pe_bm PySem.F.plainAttrs_list PySem.F.slot_list_insert PySem.F.type_list_insert mt_insert (pv 4) (pa_cons (pe_bm PySem.F.plainAttrs_list PySem.F.slot_list_index PySem.F.type_list_index mt_index (pv 4) (pa_cons (pe_ix ix_list (pe_fld (pv 0) rfl) (pv 1) (fun _ _ => rfl)) pa_nil)) (pa_cons (pv 3) pa_nil))))
      (pss_cons (ps_expr (pe_methS (pv 0) X.cls M3 G3 hr b3 (fun σ => passAt (takes_of rfl rfl rfl rfl) σ) (pa_cons (pe_op op_cat (pe_fld (pv 0) rfl) (pe_lst (pa_cons (pv 2) pa_nil))) (pa_cons (pv 4) (pa_cons (pe_op op_cat (pe_fld (pv 0) rfl) (pe_lst (pa_cons (pe_tup (pa_cons (pv 1) (pa_cons (pv 2) (pa_cons (pv 3) (pa_cons pe_bl pa_nil))))) pa_nil))) pa_nil)))))
      (pss_one (ps_asg (pe_lst pa_nil) (pg_sub (pe_fld (pv 0) rfl) (pv 1) set_list)))))))), ?_⟩
    refine ⟨_, rfl, tb, a.dx, _, rfl, hD.ob, rfl, _, rfl, tb, h, a, S, rfl, hD, hh, ?_⟩
    refine ⟨_, rfl, z, rfl, hT, hz, fun H1 e1 => ?_⟩
    have hD1 := hD.gw e1.ext
    refine ⟨_, rfl, tb, B, a.dx, _, _, rfl, hD1.ob, X.cls, X.nSigns, rfl, a.sg, _, rfl, .inl (SqL.of hD1.sg), ?_⟩
    refine ⟨_, rfl, tb, B, a.dx, _, _, rfl, hD1.ob, X.cls, X.nOrder, rfl, a.od, _, rfl, .inl (SqL.of hD1.od), fun O nO => ?_⟩
    have x2 : ∀ {o : HO}, Same H1 (upd H1 O o) := same_new nO
    have hs := getD_spot hh
    have mo : S.spots.getD h 0 ∈ S.order := by
      have := hO.sp _ (List.mem_of_getElem? hs)
      exact (List.mem_filter.mp this).1
    obtain ⟨g1', g2', g3'⟩ := idx_nat mo
    have ol := hO.ol
    have szl : (9000 : Nat) < sizeLine := by decide
    refine ⟨_, rfl, .inl ⟨rfl, _, SqL.of upd_same⟩, _, rfl, .inl ⟨rfl, _, SqL.of upd_same⟩, _, rfl, tb, B, a.dx, _, _, rfl, x2 _ _ hD1.ob, X.cls, X.nSpots, rfl, _, rfl, a.sp, _, _, _, rfl, rfl, SqL.of (x2 _ _ hD1.sp), atI_nat (nV_get hs), O, nV S.order, .int (S.spots.getD h 0 : Nat), S.order.idxOf (S.spots.getD h 0), .int (S.spots.getD h 0 : Nat), rfl, rfl, SqL.of upd_same, rfl, ints_flat _, nV_get g1', by simp [eqV], ints_no g3', _, rfl, O, nV S.order, _, _, rfl, rfl, upd_same, by rw [nV_len]; omega, by omega, by omega, ?_⟩
    rw [upd_upd]
    have eo : (nV S.order).take ((S.order.idxOf (S.spots.getD h 0) : Nat) : Int).toNat ++ [V.int (((sV S.signs).length : Nat) : Int)] ++ (nV S.order).drop ((S.order.idxOf (S.spots.getD h 0) : Nat) : Int).toNat = nV (ordP S h) := by
      unfold ordP nV sV
      rw [Int.toNat_natCast, List.map_append, List.map_append, List.map_take, List.map_drop, List.length_map]
      rfl
    rw [eo]
    have hO2 : upd H1 O (.lst (nV (ordP S h))) O = some (.lst (nV (ordP S h))) := upd_same
    have x2 := x2 (o := .lst (nV (ordP S h)))
    generalize upd H1 O (.lst (nV (ordP S h))) = H2 at x2 hO2 ⊢
    have hD2 := hD1.same x2
    have sm := hS.many
    rw [List.length_append] at sm
    have sm : S.signs.length + 1 ≤ 9000 := sm
    have dl : S.deeds.length + 1 ≤ 9000 := by have := hS.dn; unfold deedP at this; rw [List.length_append] at this; exact this
    refine ⟨_, rfl, tb, a.dx, _, rfl, hD2.ob, rfl, _, rfl, tb, B, a.dx, _, _, rfl, hD2.ob, X.cls, X.nSigns, rfl, _, rfl, by show 1 ≤ sizeLine; decide, fun q nq => ⟨a.sg, q, _, _, rfl, rfl, same_new nq _ _ hD2.sg, upd_same, by rw [List.length_map]; show S.signs.length + 1 ≤ sizeLine; omega, fun L1 nL1 => ?_⟩⟩
    have es : sV S.signs ++ [V.str z] = sV (S.signs ++ [z]) := by simp [sV]
    rw [es]
    have hL1 : upd (upd H2 q (.lst [V.str z])) L1 (.lst (sV (S.signs ++ [z]))) L1 = some (.lst (sV (S.signs ++ [z]))) := upd_same
    have x3 := same_trans (same_new (o := .lst [V.str z]) nq) (same_new (o := .lst (sV (S.signs ++ [z]))) nL1)
    have nL10 : H2 L1 = none := same_old (same_new nq) nL1
    generalize upd (upd H2 q (.lst [V.str z])) L1 (.lst (sV (S.signs ++ [z]))) = H3 at x3 hL1 ⊢
    have hD3 := hD2.same x3
    refine ⟨_, rfl, _, rfl, tb, B, a.dx, _, _, rfl, hD3.ob, X.cls, X.nDeeds, rfl, _, rfl, _, rfl, _, rfl, by show 4 ≤ sizeLine; decide, fun p np => ⟨by show 1 ≤ sizeLine; decide, fun q2 nq2 => ?_⟩⟩
    have el : (((sV S.signs).length : Nat) : Int) = ((S.signs.length : Nat) : Int) := by unfold sV; rw [List.length_map]
    have y1 := same_new (o := .tup [.int (h : Nat), .str z, .int ((sV S.signs).length : Nat), .bl true]) np
    have y2 := same_new (o := .lst [.ref p]) nq2
    have hq2 : upd (upd H3 p (.tup [.int (h : Nat), .str z, .int ((sV S.signs).length : Nat), .bl true])) q2 (.lst [.ref p]) q2 = some (.lst [.ref p]) := upd_same
    have hp : upd (upd H3 p (.tup [.int (h : Nat), .str z, .int ((sV S.signs).length : Nat), .bl true])) q2 (.lst [.ref p]) p = some (.tup (dV (h, z, S.signs.length, true))) := by
      rw [y2 _ _ (upd_same (H := H3) (a := p)), el]
      rfl
    have yy := same_trans y1 y2
    show rCat _ _ (upd (upd H3 p (.tup [.int (h : Nat), .str z, .int ((sV S.signs).length : Nat), .bl true])) q2 (.lst [.ref p])) _
    generalize upd (upd H3 p (.tup [.int (h : Nat), .str z, .int ((sV S.signs).length : Nat), .bl true])) q2 (.lst [.ref p]) = H4 at yy hq2 hp ⊢
    clear y1 y2
    have hD4 := hD3.same yy
    refine ⟨a.dl, q2, _, _, rfl, rfl, hD4.de.lst, hq2, by rw [List.length_map, hD.de.len]; show S.deeds.length + 1 ≤ sizeLine; omega, fun L3 nL3 => ?_⟩
    have em : a.da.map V.ref ++ [V.ref p] = (a.da ++ [p]).map V.ref := by rw [List.map_append]; rfl
    rw [em]
    have y3 := same_new (o := .lst ((a.da ++ [p]).map V.ref)) nL3
    have hL3 : upd H4 L3 (.lst ((a.da ++ [p]).map V.ref)) L3 = some (.lst ((a.da ++ [p]).map V.ref)) := upd_same
    have hp3 := y3 _ _ hp
    generalize upd H4 L3 (.lst ((a.da ++ [p]).map V.ref)) = H5 at y3 hL3 hp3 ⊢
    have x15 : Same H1 H5 := same_trans x2 (same_trans x3 (same_trans yy y3))
    have e5 := e1.trans (same_ex x15 e1.tab)
    have hD5 := hD1.same x15
    have nO1 : H1 O = none := nO
    have nL11 : H1 L1 = none := same_old x2 nL10
    have nL31 : H1 L3 = none := same_old x2 (same_old x3 (same_old yy nL3))
    have hO5 := y3 _ _ (yy _ _ (x3 _ _ hO2))
    have hL15 := y3 _ _ (yy _ _ hL1)
    have hdl : DeedsAt H5 L3 (a.da ++ [p]) (deedP S h z) := by
      refine ⟨hL3, by unfold deedP; rw [List.length_append, List.length_append, hD.de.len]; rfl, fun i t d h1 h2 => ?_⟩
      unfold deedP at h2
      by_cases c : i < S.deeds.length
      · rw [List.getElem?_append_left c] at h2
        rw [List.getElem?_append_left (by rw [hD.de.len]; exact c)] at h1
        exact hD5.de.at_ i t d h1 h2
      · rw [List.getElem?_append_right (by omega)] at h2
        rw [List.getElem?_append_right (by rw [hD.de.len]; omega), hD.de.len] at h1
        have z : i - S.deeds.length = 0 := by have := (List.getElem?_eq_some_iff.mp h2).1; simp at this; omega
        rw [z] at h1 h2
        cases h1
        cases h2
        exact hp3
    have ou : ∀ c ∈ a.ud :: a.ua, c ≠ L1 ∧ c ≠ O ∧ c ≠ L3 := fun c hc => by
      have : ∃ o, H1 c = some o := by
        rcases List.mem_cons.mp hc with e | e
        · exact ⟨_, e ▸ hD1.ud⟩
        · obtain ⟨i, hi⟩ := List.mem_iff_getElem?.mp e
          obtain ⟨l, hl⟩ := getP (xs := S.undone) (i := i) (by rw [← hD.ul]; exact (List.getElem?_eq_some_iff.mp hi).1)
          exact ⟨_, hD1.un i c l hi hl⟩
      obtain ⟨o, ho⟩ := this
      exact ⟨ne_of_none ho nL11, ne_of_none ho nO1, ne_of_none ho nL31⟩
    refine ⟨tb, L1, O, L3, a, S, S.signs ++ [z], ordP S h, deedP S h z, _, rfl, e5.tab, hD5, hL15, hO5, hdl, ou, hS, fun pg th sp H6 nth nsp kk t6 o6 hD6 => ?_, fun pg H6 x6 => kx pg H6 (e5.trans x6)⟩
    replace k := k pg
    have hu : h < S.undone.length := by rw [← hO.hn]; exact hh
    refine ⟨small0, fun n nn => ⟨_, rfl, tb, B, _, _, _, rfl, by rw [upd_ne (ne_of_none hD6.ob nn)]; exact hD6.ob, X.cls, X.nUndone, rfl, _, rfl, a.ud, _, _, h, rfl, rfl, by rw [upd_ne (ne_of_none hD6.ud nn)]; exact hD6.ud, ixN_nat (by rw [List.length_map, hD6.ul]; exact hu), ?_⟩⟩
    have y7 := same_new (o := .lst []) nn
    have hn7 : upd H6 n (.lst []) n = some (.lst (nV [])) := upd_same
    have n6 : ∀ {c : Addr} {o : HO}, H6 c = some o → n ≠ c := fun h z => by rw [← z, nn] at h; cases h
    generalize upd H6 n (.lst []) = H7 at y7 hn7 ⊢
    have hD7 := hD6.same y7
    have eset : (a.ua.map V.ref).set h (V.ref n) = (a.ua.set h n).map V.ref := by rw [List.map_set]
    have nua : n ∉ a.ua := fun z => by
      obtain ⟨i, hi⟩ := List.mem_iff_getElem?.mp z
      obtain ⟨l, hl⟩ := getP (xs := S.undone) (i := i) (by rw [← hD.ul]; exact (List.getElem?_eq_some_iff.mp hi).1)
      exact n6 (hD6.un i n l hi hl) rfl
    have hD8 := hD7.und0 (h := h) (l := []) hn7 hu ⟨n6 hD6.sp, n6 hD6.ud, nua⟩ ⟨n6 hD6.sg, n6 hD6.od, n6 hD6.th, n6 hD6.de.lst⟩
    dsimp only
    rw [eset]
    have n0 : H n = none := e5.old _ (o6 n nn)
    have old1 : ∀ {c : Addr}, H1 c = none → H c = none := fun z => e1.old _ z
    refine k _ _ (fun c o h m nn2 => ?_) (fun c hc => ?_) (tabs_lst (same_ex y7 t6).tab hD7.ud) (fun b hb => e5.old b (o6 b (same_old y7 (upd_old hD7.ud hb)))) hD8
    · rw [upd_ne (fun z => nn2 (by rw [z]; exact .inr (.inr (.inr (.inr (.inr (.inr (.inl rfl))))))))]
      exact y7 _ _ (kk c o (e5.any h m) m fun z => nn2 (.inl z))
    · rcases ownT_eq hc with z | z
      · rcases setA_own z with z | z | z | z | z | z
        · exact .inl z
        · exact .inr (z ▸ old1 nL11)
        · exact .inr (z ▸ old1 nO1)
        · exact .inr (z ▸ e5.old _ nth)
        · exact .inr (z ▸ old1 nL31)
        · exact .inr (z ▸ e5.old _ nsp)
      · rcases List.mem_or_eq_of_mem_set z with z | z
        · exact .inl (.inr (.inr (.inr (.inr (.inr (.inr (.inr z)))))))
        · exact .inr (z ▸ n0)
end
end TG

namespace TG
open PySem PySem.Spec PyProof.Rows L2 NdefX GenW Gx Lv
/-! ### texts of signs -/
theorem str_of {a b : Str} (h : cl a = cl b) : a = b := by
  obtain ⟨⟨a⟩⟩ := a
  obtain ⟨⟨b⟩⟩ := b
  have : a = b := h
  rw [this]
theorem filt_all {p : Nat → Bool} : ∀ {l : List Nat}, (∀ x ∈ l, p x = true) → l.filter p = l
  | [], _ => rfl
  | a :: l, h => by rw [List.filter_cons, if_pos (h a (by simp)), filt_all fun x hx => h x (by simp [hx])]
theorem sgS_len (z : Str) : (sgS z).length = z.length := by unfold sgS; rw [List.length_map, Array.length_toList]; rfl
theorem cl_textR (signs : List Str) (marks : List Nat) : cl (textR signs marks) = (marks.map fun m => cl (signs.getD m "")).flatten := by
  unfold textR
  rw [cl_joinL]
  have e0 : cl ("" : Str) = [] := by decide +kernel
  rw [e0, List.map_map]
  have : ∀ l : List (List Nat), TL.joinL [] l = l.flatten := by
    intro l
    induction l with
    | nil => rfl
    | cons y ys ih =>
      cases ys with
      | nil => simp [TL.joinL]
      | cons x xs =>
        show y ++ ([] ++ TL.joinL [] (x :: xs)) = _
        rw [List.nil_append, ih]
        rfl
  rw [this]
  rfl
theorem sg_getD {z : Str} {m : Nat} : cl ((sgS z ++ [("" : Str)]).getD m "") = (cl z)[m]?.toList := by
  have e0 : cl ("" : Str) = [] := by decide +kernel
  have ez : (cl z).length = z.length := (len_cl z).symm
  rw [List.getD_eq_getElem?_getD]
  by_cases h : m < z.length
  · rw [List.getElem?_append_left (by rw [sgS_len]; exact h)]
    unfold sgS
    rw [List.getElem?_map]
    have e : z.cps.toList[m]? = (cl z)[m]? := rfl
    rw [e, List.getElem?_eq_getElem (by omega)]
    rfl
  · have e : (cl z)[m]? = none := List.getElem?_eq_none (by omega)
    rw [e]
    rw [List.getElem?_append_right (by rw [sgS_len]; omega), sgS_len]
    cases q : ([("" : Str)] : List Str)[m - z.length]? with
    | none => exact e0
    | some x =>
      have := List.mem_of_getElem? q
      rw [List.mem_singleton] at this
      rw [this]
      exact e0
theorem flat_range (l : List Nat) : ∀ (n s : Nat), ((List.range' s n).map fun m => l[m]?.toList).flatten = (l.drop s).take n
  | 0, s => by simp
  | n + 1, s => by
    rw [List.range'_succ, List.map_cons, List.flatten_cons, flat_range l n (s + 1)]
    by_cases h : s < l.length
    · rw [List.getElem?_eq_getElem h, List.drop_eq_getElem_cons h]
      rfl
    · rw [List.getElem?_eq_none (by omega), List.drop_eq_nil_of_le (by omega), List.drop_eq_nil_of_le (by omega)]
      simp
/-! ### a table with marks put in at one place -/
def dsN (n : Nat) (ds : List Deed) : List Deed := ds.map fun d => (d.1, d.2.1, n + d.2.2.1, d.2.2.2)
def ordG (n k m : Nat) : List Nat := List.range k ++ List.range' n m ++ List.range' k (n - k)
def sgG (z : Str) (xs : List Str) : List Str := sgS z ++ [("" : Str)] ++ xs
def GS (z : Str) (k : Nat) (xs : List Str) (ds : List Deed) (sp : List Nat) (us : List (List Nat)) : TSt := ⟨sgG z xs, ordG (z.length + 1) k xs.length, thereR (z.length + 1 + xs.length) (dsN (z.length + 1) ds), dsN (z.length + 1) ds, sp, us⟩
def presR (xs : List Str) (bs : List Bool) : List Str := ((List.range xs.length).filter fun i => bs.getD i false).map fun i => xs.getD i ""
def txC (z : Str) (k : Nat) (ys : List Str) : List Nat := (cl z).take k ++ (ys.map cl).flatten ++ (cl z).drop k
def tx (z : Str) (k : Nat) (ys : List Str) : Str := ⟨(txC z k ys).toArray⟩
theorem cl_tx (z : Str) (k : Nat) (ys : List Str) : cl (tx z k ys) = txC z k ys := by simp [cl, tx]
theorem sgG_len {z : Str} {xs : List Str} : (sgG z xs).length = z.length + 1 + xs.length := by unfold sgG; rw [List.length_append, List.length_append, sgS_len]; rfl
theorem dsN_len (n : Nat) (ds : List Deed) : (dsN n ds).length = ds.length := by unfold dsN; rw [List.length_map]
theorem there_N (n : Nat) : ∀ (ds : List Deed) (B : List Bool), (dsN n ds).foldl markR (List.replicate n true ++ B) = List.replicate n true ++ ds.foldl markR B
  | [], B => rfl
  | d :: ds, B => by
    have e : markR (List.replicate n true ++ B) (d.1, d.2.1, n + d.2.2.1, d.2.2.2) = List.replicate n true ++ markR B d := by
      unfold markR
      dsimp only
      split
      · rw [List.set_append, List.length_replicate, if_neg (by omega), Nat.add_sub_cancel_left]
      · rfl
    show (dsN n ds).foldl markR (markR (List.replicate n true ++ B) (d.1, d.2.1, n + d.2.2.1, d.2.2.2)) = _
    rw [e, there_N n ds]
    rfl
theorem there_G (n m : Nat) (ds : List Deed) : thereR (n + m) (dsN n ds) = List.replicate n true ++ thereR m ds := by
  unfold thereR
  rw [← List.replicate_append_replicate, there_N]
theorem getG1 {n i : Nat} {B : List Bool} (h : i < n) : (List.replicate n true ++ B).getD i false = true := by
  rw [List.getD_eq_getElem?_getD, List.getElem?_append_left (by rw [List.length_replicate]; exact h), List.getElem?_replicate, if_pos h]
  rfl
theorem getG2 {n i : Nat} {B : List Bool} : (List.replicate n true ++ B).getD (n + i) false = B.getD i false := by
  rw [List.getD_eq_getElem?_getD, List.getElem?_append_right (by rw [List.length_replicate]; omega), List.length_replicate, Nat.add_sub_cancel_left, ← List.getD_eq_getElem?_getD]
theorem those_G {n k m : Nat} {B : List Bool} (hk : k ≤ n) : thoseR (ordG n k m) (List.replicate n true ++ B) = List.range k ++ ((List.range m).filter fun i => B.getD i false).map (fun i => n + i) ++ List.range' k (n - k) := by
  unfold thoseR ordG
  rw [List.filter_append, List.filter_append]
  have h1 : (List.range k).filter (fun i => (List.replicate n true ++ B).getD i false) = List.range k := filt_all fun x hx => getG1 (by rw [List.mem_range] at hx; omega)
  have h3 : (List.range' k (n - k)).filter (fun i => (List.replicate n true ++ B).getD i false) = List.range' k (n - k) := filt_all fun x hx => getG1 (by rw [List.mem_range'_1] at hx; omega)
  have h2 : (List.range' n m).filter (fun i => (List.replicate n true ++ B).getD i false) = ((List.range m).filter fun i => B.getD i false).map (fun i => n + i) := by
    rw [List.range'_eq_map_range, List.filter_map]
    congr 1
    apply List.filter_congr
    intro x _
    exact getG2
  rw [h1, h2, h3]
theorem sgG_lt {z : Str} {xs : List Str} {m : Nat} (h : m < z.length + 1) : (sgG z xs).getD m "" = (sgS z ++ [("" : Str)]).getD m "" := by
  unfold sgG
  rw [List.getD_eq_getElem?_getD, List.getElem?_append_left (by rw [List.length_append, sgS_len]; exact h), ← List.getD_eq_getElem?_getD]
theorem sgG_ge {z : Str} {xs : List Str} {i : Nat} : (sgG z xs).getD (z.length + 1 + i) "" = xs.getD i "" := by
  have e : (sgS z ++ [("" : Str)]).length = z.length + 1 := by rw [List.length_append, sgS_len]; rfl
  unfold sgG
  rw [List.getD_eq_getElem?_getD, List.getElem?_append_right (by rw [e]; omega), e, Nat.add_sub_cancel_left, ← List.getD_eq_getElem?_getD]
theorem text_G {z : Str} {k : Nat} {xs : List Str} {B : List Bool} (hk : k ≤ z.length) : textR (sgG z xs) (thoseR (ordG (z.length + 1) k xs.length) (List.replicate (z.length + 1) true ++ B)) = tx z k (presR xs B) := by
  have ez : (cl z).length = z.length := (len_cl z).symm
  refine str_of ?_
  rw [cl_tx, cl_textR, those_G (by omega), List.map_append, List.map_append, List.flatten_append, List.flatten_append]
  have low : ∀ (s m : Nat), s + m ≤ z.length + 1 → ((List.range' s m).map fun i => cl ((sgG z xs).getD i "")).flatten = ((cl z).drop s).take m := fun s m h => by
    rw [← flat_range]
    congr 1
    apply List.map_congr_left
    intro i hi
    rw [List.mem_range'_1] at hi
    rw [sgG_lt (by omega), sg_getD]
  rw [List.range_eq_range', low 0 k (by omega), low k _ (by omega), List.drop_zero]
  unfold txC presR
  congr 1
  · congr 2
    rw [List.map_map, List.map_map]
    apply List.map_congr_left
    intro i _
    show cl ((sgG z xs).getD (z.length + 1 + i) "") = _
    rw [sgG_ge]
    rfl
  · rw [List.take_of_length_le]
    rw [List.length_drop]
    omega
theorem page_G {z : Str} {k : Nat} {xs : List Str} {ds : List Deed} (hk : k ≤ z.length) : pageR (sgG z xs) (ordG (z.length + 1) k xs.length) (dsN (z.length + 1) ds) = rowsT (tx z k (presR xs (thereR xs.length ds))) := by
  unfold pageR
  rw [sgG_len, there_G, text_G hk]
theorem here_G {z : Str} {k : Nat} {xs : List Str} {ds : List Deed} {sp : List Nat} {us : List (List Nat)} (hk : k ≤ z.length) : hereR (GS z k xs ds sp us) = List.range k ++ ((List.range xs.length).filter fun i => (thereR xs.length ds).getD i false).map (fun i => z.length + 1 + i) ++ List.range' k (z.length + 1 - k) := by
  show thoseR (ordG (z.length + 1) k xs.length) (thereR (z.length + 1 + xs.length) (dsN (z.length + 1) ds)) = _
  rw [there_G, those_G (by omega)]
theorem ordG_mem {n k m s : Nat} (hk : k ≤ n) (h : s < n) : s ∈ ordG n k m := by
  unfold ordG
  rw [List.mem_append, List.mem_append, List.mem_range, List.mem_range'_1, List.mem_range'_1]
  by_cases c : s < k
  · exact .inl (.inl c)
  · exact .inr (by omega)
theorem ordG_lt {n k m s : Nat} (hk : k ≤ n) (h : s ∈ ordG n k m) : s < n + m := by
  unfold ordG at h
  rw [List.mem_append, List.mem_append, List.mem_range, List.mem_range'_1, List.mem_range'_1] at h
  omega
theorem ordG_len {n k m : Nat} (hk : k ≤ n) : (ordG n k m).length = n + m := by
  unfold ordG
  rw [List.length_append, List.length_append, List.length_range, List.length_range', List.length_range']
  omega
theorem drop_idx {s : Nat} : ∀ {l : List Nat}, s ∈ l → ∃ r, l.drop (l.idxOf s) = s :: r
  | a :: l, h => by
    by_cases c : a = s
    · subst c
      exact ⟨l, by simp [List.idxOf_cons]⟩
    · have hm : s ∈ l := by
        rcases List.mem_cons.mp h with e | e
        · exact absurd e.symm c
        · exact e
      obtain ⟨r, hr⟩ := drop_idx hm
      refine ⟨r, ?_⟩
      rw [List.idxOf_cons]
      have : (a == s) = false := by simp [c]
      rw [this]
      exact hr
theorem firstR_self {order : List Nat} {there : List Bool} {s : Nat} (h : s ∈ order) (t : there.getD s false = true) : firstR order there s = s ∧ ∃ m ∈ order.drop (order.idxOf s), there.getD m false = true := by
  obtain ⟨r, hr⟩ := drop_idx h
  unfold firstR
  rw [hr, List.find?_cons, t]
  exact ⟨rfl, s, by simp, t⟩
theorem spots_G {n k m : Nat} {B : List Bool} {sp : List Nat} (hk : k ≤ n) (h : ∀ s ∈ sp, s < n) : sp.map (firstR (ordG n k m) (List.replicate n true ++ B)) = sp := by
  have := List.map_congr_left (f := firstR (ordG n k m) (List.replicate n true ++ B)) (g := id) (l := sp) fun s hs => (firstR_self (ordG_mem hk (h s hs)) (getG1 (h s hs))).1
  rw [this, List.map_id]
theorem settle_G {z : Str} {k : Nat} {S : TSt} {xs : List Str} {ds : List Deed} (hk : k ≤ z.length) (h : ∀ s ∈ S.spots, s ≤ z.length) : settleR S (sgG z xs) (ordG (z.length + 1) k xs.length) (dsN (z.length + 1) ds) = GS z k xs ds S.spots S.undone := by
  unfold settleR GS
  rw [sgG_len]
  congr 1
  rw [there_G, spots_G (by omega) fun s hs => Nat.lt_succ_of_le (h s hs)]
/-! ### what stands there is in order -/
structure GOk (z : Str) (k : Nat) (xs : List Str) (ds : List Deed) (sp : List Nat) : Prop where
  sg : TxtSg z
  zl : z.length ≤ 100
  kl : k ≤ z.length
  xm : ∀ x ∈ xs, MarkOk x
  xl : xs.length ≤ 2
  dm : ∀ d ∈ ds, d.2.2.1 < xs.length
  dl : ds.length ≤ 100
  ps : ∀ s ∈ sp, s ≤ z.length
  h4 : sp.length ≤ 4
theorem cl_oneG (c : Nat) : cl (⟨#[c]⟩ : Str) = [c] := rfl
theorem MarkOk.sg {x : Str} (h : MarkOk x) : ∀ c ∈ cl x, SgOk c ∨ c = 9 ∨ c = 10 := by
  intro c hc
  rcases h with h | h | ⟨d, h, hd⟩
  · rw [h, cl_tabS, List.mem_singleton] at hc
    exact .inr (.inl hc)
  · rw [h, cl_lineS, List.mem_singleton] at hc
    exact .inr (.inr hc)
  · rw [h, cl_oneG, List.mem_singleton] at hc
    rw [hc]
    exact .inl hd
theorem pres_mem {xs : List Str} {B : List Bool} {x : Str} (h : x ∈ presR xs B) : x ∈ xs := by
  unfold presR at h
  obtain ⟨i, hi, rfl⟩ := List.mem_map.mp h
  have := List.mem_range.mp (List.mem_filter.mp hi).1
  rw [List.getD_eq_getElem?_getD, List.getElem?_eq_getElem this]
  exact List.getElem_mem this
theorem tx_sg {z : Str} {k : Nat} {ys : List Str} (h : TxtSg z) (hy : ∀ y ∈ ys, MarkOk y) : TxtSg (tx z k ys) := by
  intro c hc
  rw [cl_tx] at hc
  unfold txC at hc
  rcases List.mem_append.mp hc with hc | hc
  · rcases List.mem_append.mp hc with hc | hc
    · exact h c (List.mem_of_mem_take hc)
    · obtain ⟨l, hl, hc⟩ := List.mem_flatten.mp hc
      obtain ⟨y, hy2, rfl⟩ := List.mem_map.mp hl
      exact (hy y hy2).sg c hc
  · exact h c (List.mem_of_mem_drop hc)
theorem sgG_one {z : Str} {xs : List Str} (h : ∀ x ∈ xs, MarkOk x) : ∀ x ∈ sgG z xs, x.length ≤ 1 := fun x hx => by
  unfold sgG at hx
  rcases List.mem_append.mp hx with hx | hx
  · rcases List.mem_append.mp hx with h | h
    · unfold sgS at h
      obtain ⟨c, _, rfl⟩ := List.mem_map.mp h
      exact Nat.le_refl _
    · rw [List.mem_singleton] at h
      rw [h]
      decide
  · rw [(h x hx).len]
    exact Nat.le_refl _
theorem dsN_mem {n : Nat} {ds : List Deed} {d : Deed} (h : d ∈ dsN n ds) : ∃ e ∈ ds, d.2.2.1 = n + e.2.2.1 := by
  unfold dsN at h
  obtain ⟨e, he, rfl⟩ := List.mem_map.mp h
  exact ⟨e, he, rfl⟩
theorem GOk.set {z : Str} {k : Nat} {xs : List Str} {ds : List Deed} {S : TSt} (o : GOk z k xs ds S.spots) : SetPre S (sgG z xs) (ordG (z.length + 1) k xs.length) (dsN (z.length + 1) ds) := by
  have h1 := o.zl
  have h2 := o.kl
  have h3 := o.xl
  refine ⟨sgG_one o.xm, by rw [sgG_len]; omega, fun m hm => by rw [sgG_len]; exact ordG_lt (by omega) hm, by rw [ordG_len (by omega)]; omega, fun d hd => ?_, by rw [dsN_len]; have := o.dl; omega, fun s hs => ?_, ?_, o.h4⟩
  · obtain ⟨e, he, hd⟩ := dsN_mem hd
    have := o.dm e he
    rw [sgG_len]
    omega
  · have := o.ps s hs
    rw [sgG_len, there_G]
    exact ⟨ordG_mem (by omega) (by omega), (firstR_self (ordG_mem (by omega) (by omega)) (getG1 (by omega))).2⟩
  · rw [sgG_len, there_G, text_G o.kl]
    exact tx_sg o.sg fun y hy => o.xm y (pres_mem hy)
theorem GOk.tok {z : Str} {k : Nat} {xs : List Str} {ds : List Deed} {sp : List Nat} {us : List (List Nat)} (o : GOk z k xs ds sp) (hn : sp.length = us.length) (hu : ∀ l ∈ us, l.length ≤ 100 ∧ ∀ n ∈ l, n < ds.length) : TOk (GS z k xs ds sp us) := by
  have h1 := o.zl
  have h2 := o.kl
  have h3 := o.xl
  refine ⟨sgG_one o.xm, by show (sgG z xs).length ≤ 9000; rw [sgG_len]; omega, fun m hm => by show m < (sgG z xs).length; rw [sgG_len]; exact ordG_lt (by omega) hm, by show (ordG (z.length + 1) k xs.length).length ≤ 9000; rw [ordG_len (by omega)]; omega, by show (thereR (z.length + 1 + xs.length) (dsN (z.length + 1) ds)).length = (sgG z xs).length; rw [thereR_len, sgG_len], fun d hd => ?_, by show (dsN (z.length + 1) ds).length ≤ 9000; rw [dsN_len]; have := o.dl; omega, fun s hs => ?_, hn, o.h4, fun l hl => ⟨by have := (hu l hl).1; omega, fun n hn => by show n < (dsN (z.length + 1) ds).length; rw [dsN_len]; exact (hu l hl).2 n hn⟩⟩
  · obtain ⟨e, he, hd⟩ := dsN_mem hd
    have := o.dm e he
    show d.2.2.1 < (sgG z xs).length
    rw [sgG_len]
    omega
  · have := o.ps s hs
    have e : thoseR (GS z k xs ds sp us).order (GS z k xs ds sp us).there = _ := here_G h2
    rw [e, List.mem_append, List.mem_append, List.mem_range, List.mem_range'_1]
    by_cases c : s < k
    · exact .inl (.inl c)
    · exact .inr (by omega)
end TG

namespace TG
open PySem PySem.Spec PyProof.Rows L2 NdefX GenW Gx Lv
/-! ### what a table with marks at one place does -/
def turnD (ds : List Deed) (n : Nat) (st : Bool) : List Deed := match ds[n]? with
  | some d => ds.set n (d.1, d.2.1, d.2.2.1, st)
  | none => ds
def spG (k m : Nat) : List Nat := k :: k :: List.replicate m 0
def usG (u0 u1 : List Nat) (m : Nat) : List (List Nat) := u0 :: u1 :: List.replicate m []
abbrev pgG (z : Str) (k : Nat) (xs : List Str) (ds : List Deed) : List (List Str) := rowsT (tx z k (presR xs (thereR xs.length ds)))
section
variable {z : Str} {k h : Nat} {xs : List Str} {ds : List Deed} {sp : List Nat} {us : List (List Nat)}
theorem turn_G {n : Nat} {st : Bool} : turnR (GS z k xs ds sp us) n st = dsN (z.length + 1) (turnD ds n st) := by
  have e : (GS z k xs ds sp us).deeds = dsN (z.length + 1) ds := rfl
  unfold turnR turnD
  rw [e]
  have e2 : (dsN (z.length + 1) ds)[n]? = ds[n]?.map fun d => (d.1, d.2.1, z.length + 1 + d.2.2.1, d.2.2.2) := by unfold dsN; rw [List.getElem?_map]
  rw [e2]
  cases ds[n]? with
  | none => rfl
  | some d =>
    show (dsN (z.length + 1) ds).set n _ = dsN _ (ds.set n _)
    unfold dsN
    rw [List.map_set]
theorem stR_G (N h l : Nat) : stR (dsN N ds) h l = stR ds h l := by
  unfold stR
  congr 1
  funext i
  have e2 : (dsN N ds)[i]? = ds[i]?.map fun d => (d.1, d.2.1, N + d.2.2.1, d.2.2.2) := by unfold dsN; rw [List.getElem?_map]
  rw [List.getD_eq_getElem?_getD, List.getD_eq_getElem?_getD, e2]
  cases ds[i]? <;> rfl
theorem GOk.turn (o : GOk z k xs ds sp) (n : Nat) (st : Bool) : GOk z k xs (turnD ds n st) sp := by
  refine ⟨o.sg, o.zl, o.kl, o.xm, o.xl, fun d hd => ?_, ?_, o.ps, o.h4⟩
  · unfold turnD at hd
    split at hd
    · rename_i e he
      rcases List.mem_or_eq_of_mem_set hd with q | q
      · exact o.dm d q
      · rw [q]
        exact o.dm e (List.mem_of_getElem? he)
    · exact o.dm d hd
  · unfold turnD
    split
    · rw [List.length_set]; exact o.dl
    · exact o.dl
theorem GOk.deed (o : GOk z k xs ds sp) (hl : ds.length ≤ 90) {d : Deed} (hd : d.2.2.1 < xs.length) : GOk z k xs (ds ++ [d]) sp := by
  refine ⟨o.sg, o.zl, o.kl, o.xm, o.xl, fun e he => ?_, by rw [List.length_append]; show ds.length + 1 ≤ 100; omega, o.ps, o.h4⟩
  rcases List.mem_append.mp he with q | q
  · exact o.dm e q
  · rw [List.mem_singleton] at q
    rw [q]
    exact hd
theorem GOk.more (o : GOk z k xs ds sp) (hl : ds.length ≤ 90) (hx : xs.length ≤ 1) {w : Str} (hw : MarkOk w) : GOk z k (xs ++ [w]) (ds ++ [((h, w, xs.length, true) : Deed)]) sp := by
  refine ⟨o.sg, o.zl, o.kl, fun x hx => ?_, by rw [List.length_append]; show xs.length + 1 ≤ 2; omega, fun e he => ?_, by rw [List.length_append]; show ds.length + 1 ≤ 100; omega, o.ps, o.h4⟩
  · rcases List.mem_append.mp hx with q | q
    · exact o.xm x q
    · rw [List.mem_singleton] at q
      rw [q]
      exact hw
  · rw [List.length_append]
    show e.2.2.1 < xs.length + 1
    rcases List.mem_append.mp he with q | q
    · have := o.dm e q
      omega
    · rw [List.mem_singleton] at q
      rw [q]
      show xs.length < xs.length + 1
      omega
theorem set_us {S : TSt} {u : List (List Nat)} {S' : TSt} (e : S = S') : ({ S with undone := u } : TSt) = { S' with undone := u } := by rw [e]
theorem back_G (o : GOk z k xs ds sp) : backR (GS z k xs ds sp us) h = match (stR ds h ds.length).getLast? with
    | none => (false, GS z k xs ds sp us)
    | some n => (true, GS z k xs (turnD ds n false) sp (us.set h (us.getD h [] ++ [n]))) := by
  have e : stR (GS z k xs ds sp us).deeds h (GS z k xs ds sp us).deeds.length = stR ds h ds.length := by
    show stR (dsN (z.length + 1) ds) h (dsN (z.length + 1) ds).length = _
    rw [stR_G, dsN_len]
  unfold backR
  rw [e]
  cases (stR ds h ds.length).getLast? with
  | none => rfl
  | some n =>
    dsimp only
    rw [turn_G]
    have := settle_G (S := GS z k xs ds sp us) (xs := xs) (ds := turnD ds n false) o.kl o.ps
    have e2 : settleR (GS z k xs ds sp us) (GS z k xs ds sp us).signs (GS z k xs ds sp us).order (dsN (z.length + 1) (turnD ds n false)) = GS z k xs (turnD ds n false) sp us := this
    rw [e2]
    rfl
theorem again_G (o : GOk z k xs ds sp) : againR (GS z k xs ds sp us) h = match (us.getD h []).getLast? with
    | none => (false, GS z k xs ds sp us)
    | some n => (true, GS z k xs (turnD ds n true) sp (us.set h (us.getD h []).dropLast)) := by
  have e : (GS z k xs ds sp us).undone.getD h [] = us.getD h [] := rfl
  unfold againR
  rw [e]
  cases (us.getD h []).getLast? with
  | none => rfl
  | some n =>
    dsimp only
    rw [turn_G]
    have e2 : settleR (GS z k xs ds sp us) (GS z k xs ds sp us).signs (GS z k xs ds sp us).order (dsN (z.length + 1) (turnD ds n true)) = GS z k xs (turnD ds n true) sp us := settle_G (S := GS z k xs ds sp us) (xs := xs) (ds := turnD ds n true) o.kl o.ps
    rw [e2]
    rfl
theorem dsN_app (N : Nat) (ds : List Deed) (d : Deed) : dsN N ds ++ [(d.1, d.2.1, N + d.2.2.1, d.2.2.2)] = dsN N (ds ++ [d]) := by unfold dsN; rw [List.map_append]; rfl
theorem rub_G (o : GOk z k xs ds sp) (j : Nat) : rubR (GS z k xs ds sp us) h (z.length + 1 + j) = GS z k xs (ds ++ [((h, ("" : Str), j, true) : Deed)]) sp (us.set h []) := by
  unfold rubR
  have e : (GS z k xs ds sp us).deeds ++ [((h, ("" : Str), z.length + 1 + j, true) : Deed)] = dsN (z.length + 1) (ds ++ [((h, ("" : Str), j, true) : Deed)]) := dsN_app (z.length + 1) ds (h, "", j, true)
  rw [e]
  have e2 : settleR (GS z k xs ds sp us) (GS z k xs ds sp us).signs (GS z k xs ds sp us).order (dsN (z.length + 1) (ds ++ [((h, ("" : Str), j, true) : Deed)])) = GS z k xs (ds ++ [((h, ("" : Str), j, true) : Deed)]) sp us := settle_G (S := GS z k xs ds sp us) (xs := xs) o.kl o.ps
  rw [e2]
  rfl
theorem idx_G {n m : Nat} (hk : k < n) (hm : True) : (ordG n k m).idxOf k = k + m := by
  unfold ordG
  have h1 : k ∉ List.range k ++ List.range' n m := by
    rw [List.mem_append, List.mem_range, List.mem_range'_1]
    omega
  rw [List.idxOf_append, if_neg h1, List.length_append, List.length_range, List.length_range']
  obtain ⟨r, hr⟩ : ∃ r, n - k = r + 1 := ⟨n - k - 1, by omega⟩
  rw [hr, List.range'_succ, List.idxOf_cons]
  simp
theorem sign_G (w : Str) : (GS z k xs ds sp us).signs ++ [w] = sgG z (xs ++ [w]) := by
  show sgG z xs ++ [w] = _
  unfold sgG
  rw [List.append_assoc, List.append_assoc]
theorem ord_G (hk : k ≤ z.length) (hh : sp.getD h 0 = k) (w : Str) : ordP (GS z k xs ds sp us) h = ordG (z.length + 1) k (xs ++ [w]).length := by
  unfold ordP
  have e1 : (GS z k xs ds sp us).spots.getD h 0 = k := hh
  have e2 : (GS z k xs ds sp us).order = ordG (z.length + 1) k xs.length := rfl
  have e3 : (GS z k xs ds sp us).signs.length = z.length + 1 + xs.length := sgG_len
  rw [e1, e2, e3, idx_G (by omega) trivial]
  have el : (List.range k ++ List.range' (z.length + 1) xs.length).length = k + xs.length := by rw [List.length_append, List.length_range, List.length_range']
  unfold ordG
  rw [List.take_append_of_le_length (by omega), List.take_of_length_le (by omega), List.drop_append_of_le_length (by omega), List.drop_of_length_le (by omega), List.nil_append, List.length_append]
  show _ = List.range k ++ List.range' (z.length + 1) (xs.length + 1) ++ _
  rw [List.range'_1_concat, List.append_assoc (List.range k)]
theorem deed_G (w : Str) : deedP (GS z k xs ds sp us) h w = dsN (z.length + 1) (ds ++ [((h, w, xs.length, true) : Deed)]) := by
  unfold deedP
  have e3 : (GS z k xs ds sp us).signs.length = z.length + 1 + xs.length := sgG_len
  rw [e3]
  exact dsN_app (z.length + 1) ds (h, w, xs.length, true)
theorem press_G (o : GOk z k xs ds sp) (hh : sp.getD h 0 = k) (w : Str) : pressR (GS z k xs ds sp us) h w = GS z k (xs ++ [w]) (ds ++ [((h, w, xs.length, true) : Deed)]) sp (us.set h []) := by
  unfold pressR
  rw [sign_G, ord_G o.kl hh w, deed_G, settle_G (S := GS z k xs ds sp us) (xs := xs ++ [w]) o.kl o.ps]
  rfl
theorem near_G {x : Str} (hk : k ≤ z.length) (hh : sp.getD h 0 = k) (ht : thereR 1 ds = [true]) : nearR (GS z k [x] ds sp us) h (-1) = some (z.length + 1 + 0) := by
  have e : hereR (GS z k [x] ds sp us) = List.range k ++ [z.length + 1 + 0] ++ List.range' k (z.length + 1 - k) := by
    have := here_G (z := z) (k := k) (xs := [x]) (ds := ds) (sp := sp) (us := us) hk
    rw [this]
    have e2 : thereR [x].length ds = [true] := ht
    rw [e2]
    rfl
  have e1 : (GS z k [x] ds sp us).spots.getD h 0 = k := hh
  unfold nearR
  rw [e1]
  have ei : (hereR (GS z k [x] ds sp us)).idxOf k = k + 1 := by
    rw [e]
    have h1 : k ∉ List.range k ++ [z.length + 1 + 0] := by
      rw [List.mem_append, List.mem_range, List.mem_singleton]
      omega
    rw [List.idxOf_append, if_neg h1, List.length_append, List.length_range]
    obtain ⟨r, hr⟩ : ∃ r, z.length + 1 - k = r + 1 := ⟨z.length - k, by omega⟩
    rw [hr, List.range'_succ, List.idxOf_cons]
    simp
  rw [ei, if_pos ⟨by omega, by rw [e, List.length_append, List.length_append, List.length_range]; show ((k + 1 : Nat) : Int) + -1 < ((k + 1 + _ : Nat) : Int); omega⟩]
  have : (((k + 1 : Nat) : Int) + -1).toNat = k := by omega
  rw [this, e, List.append_assoc, List.getElem?_append_right (by rw [List.length_range]; omega), List.length_range, Nat.sub_self]
  rfl
end
/-! ### room for one more -/
structure RoomOk (z : Str) (k : Nat) (x y : Str) : Prop where
  mx : MarkOk x
  my : MarkOk y
  sg : TxtSg z
  zl : z.length ≤ 100
  kl : k ≤ z.length
  p0 : PgOk (rowsT (tx z k []))
  px : PgOk (rowsT (tx z k [x]))
  py : PgOk (rowsT (tx z k [y]))
  pxy : ¬ PgOk (rowsT (tx z k [x, y]))
theorem RoomOk.ok {z : Str} {k m : Nat} {x y : Str} (o : RoomOk z k x y) (hm : m ≤ 2) : GOk z k [] [] (spG k m) := by
  refine ⟨o.sg, o.zl, o.kl, fun x hx => (by cases hx), by decide, fun d hd => (by cases hd), by decide, fun s hs => ?_, ?_⟩
  · have := o.kl
    unfold spG at hs
    rcases List.mem_cons.mp hs with e | e
    · omega
    rcases List.mem_cons.mp e with e | e
    · omega
    · rw [(List.mem_replicate.mp e).2]
      omega
  · unfold spG
    show (List.replicate m 0).length + 1 + 1 ≤ 4
    rw [List.length_replicate]
    omega
theorem MarkOk.ne {x : Str} (h : MarkOk x) : decide (x = "") = false := by
  refine decide_eq_false fun e => ?_
  have := h.len
  rw [e] at this
  have e0 : ("" : Str).length = 0 := by decide +kernel
  rw [e0] at this
  cases this
section
variable {x y : Str} (hx : MarkOk x) (hy : MarkOk y)
include hx hy
theorem th1 (b : Bool) : thereR 1 [((0, x, 0, b) : Deed)] = [b] := by
  simp only [thereR, List.foldl, markR, hx.ne]
  cases b <;> rfl
theorem th2 (b c : Bool) : thereR 1 [((0, x, 0, b) : Deed), (0, "", 0, c)] = [b && !c] := by
  have e : decide (("" : Str) = "") = true := decide_eq_true rfl
  simp only [thereR, List.foldl, markR, hx.ne, e]
  cases b <;> cases c <;> rfl
theorem th3 (b c : Bool) : thereR 2 [((0, x, 0, b) : Deed), (1, y, 1, c)] = [b, c] := by
  simp only [thereR, List.foldl, markR, hx.ne, hy.ne]
  cases b <;> cases c <;> rfl
theorem th4 (b c d : Bool) : thereR 2 [((0, x, 0, b) : Deed), (0, "", 0, c), (1, y, 1, d)] = [b && !c, d] := by
  have e : decide (("" : Str) = "") = true := decide_eq_true rfl
  simp only [thereR, List.foldl, markR, hx.ne, hy.ne, e]
  cases b <;> cases c <;> cases d <;> rfl
end
theorem pr1 (x : Str) (b : Bool) : presR [x] [b] = if b then [x] else [] := by cases b <;> rfl
theorem pr2 (x y : Str) (b c : Bool) : presR [x, y] [b, c] = (if b then [x] else []) ++ if c then [y] else [] := by cases b <;> cases c <;> rfl
end TG

namespace TG
open PySem PySem.Spec PyProof.Rows L2 NdefX GenW Gx Lv
/-! ### the pages that the law has -/
def goodM (M : List (List (List Nat))) : Bool := decide (M.length ≤ 30) && M.all fun r => decide (r.length ≤ 6) && r.all fun c => decide (c.length ≤ 10)
theorem good_cl {t : Str} (h : goodM (goR [] [] (cl t ++ [10])) = true) : GoodR (rowsT t) := by
  rw [← rowsT_cl] at h
  unfold goodM at h
  rw [Bool.and_eq_true, List.length_map, List.all_eq_true] at h
  refine ⟨of_decide_eq_true h.1, fun r hr => ?_⟩
  have h2 := h.2 _ (List.mem_map_of_mem hr)
  rw [Bool.and_eq_true, List.length_map, List.all_eq_true] at h2
  unfold fitR
  rw [Bool.and_eq_true, List.all_eq_true]
  refine ⟨h2.1, fun z hz => ?_⟩
  have := h2.2 _ (List.mem_map_of_mem hz)
  rw [len_cl]
  exact this
theorem bad_cl {t : Str} (h : goodM (goR [] [] (cl t ++ [10])) = false) : ¬ PgOk (rowsT t) := fun p => by
  rw [← rowsT_cl] at h
  have : goodM ((rowsT t).map (List.map cl)) = true := by
    unfold goodM
    rw [Bool.and_eq_true, List.length_map, List.all_eq_true]
    refine ⟨decide_eq_true p.len, fun r hr => ?_⟩
    obtain ⟨r0, hr0, rfl⟩ := List.mem_map.mp hr
    have ro := p.rows r0 hr0
    rw [Bool.and_eq_true, List.length_map, List.all_eq_true]
    refine ⟨decide_eq_true ro.len, fun c hc => ?_⟩
    obtain ⟨z, hz, rfl⟩ := List.mem_map.mp hc
    refine decide_eq_true ?_
    have := (ro.cells z hz).len
    rw [len_cl] at this
    exact this
  rw [this] at h
  cases h
theorem pg_tx {z : Str} {k : Nat} {ys : List Str} (s : TxtSg z) (hy : ∀ y ∈ ys, MarkOk y) (h : goodM (goR [] [] (txC z k ys ++ [10])) = true) : PgOk (rowsT (tx z k ys)) :=
  good_pg (tx_sg s hy) (good_cl (by rw [cl_tx]; exact h))
theorem npg_tx {z : Str} {k : Nat} {ys : List Str} (h : goodM (goR [] [] (txC z k ys ++ [10])) = false) : ¬ PgOk (rowsT (tx z k ys)) := bad_cl (by rw [cl_tx]; exact h)
theorem go_plain : ∀ (l C : List Nat), (∀ c ∈ l, c ≠ 9 ∧ c ≠ 10) → goR [] C (l ++ [10]) = [[C ++ l]]
  | [], C, _ => by
    show (([] : List (List Nat)) ++ [C]) :: goR [] [] [] = _
    simp [goR]
  | c :: l, C, h => by
    have hc := h c (by simp)
    show goR [] C (c :: (l ++ [10])) = _
    unfold goR
    rw [if_neg hc.1, if_neg hc.2, go_plain l (C ++ [c]) fun d hd => h d (by simp [hd])]
    simp
theorem txtSg_of {z : Str} (h : ((cl z).all fun c => decide (32 ≤ c ∧ c ≤ 126 ∧ c ≠ 37) || decide (c = 9) || decide (c = 10)) = true) : TxtSg z := fun c hc => by
  have := List.all_eq_true.mp h c hc
  rw [Bool.or_eq_true, Bool.or_eq_true, decide_eq_true_eq, decide_eq_true_eq, decide_eq_true_eq] at this
  rcases this with (h | h) | h
  · exact .inl h
  · exact .inr (.inl h)
  · exact .inr (.inr h)
def pgW (way : Nat) : List (List Str) := if way = 0 then [["abcdefghi"]] else if way = 1 then [["", "", "", "", ""]] else List.replicate 29 ["a"]
def sgW (way : Nat) (x y : Str) : Str × Str := if way = 0 then (x, y) else if way = 1 then (tabS, tabS) else (lineS, lineS)
theorem len_W : (pageT (pgW 0)).length = 9 ∧ (pageT (pgW 1)).length = 4 ∧ (pageT (pgW 2)).length = 57 := by
  refine ⟨?_, ?_, ?_⟩ <;> decide +kernel
theorem cl_W0 : cl (pageT (pgW 0)) = [97, 98, 99, 100, 101, 102, 103, 104, 105] := by decide +kernel
theorem room0 {k : Nat} {c d : Nat} (hk : k ≤ 5) (hc : SgOk c) (hd : SgOk d) : RoomOk (pageT (pgW 0)) k ⟨#[c]⟩ ⟨#[d]⟩ := by
  have s : TxtSg (pageT (pgW 0)) := txtSg_of (by decide +kernel)
  have mc : MarkOk ⟨#[c]⟩ := .inr (.inr ⟨c, rfl, hc⟩)
  have md : MarkOk ⟨#[d]⟩ := .inr (.inr ⟨d, rfl, hd⟩)
  have key : ∀ ys : List Nat, (∀ e ∈ ys, SgOk e) → goR [] [] (txC (pageT (pgW 0)) k (ys.map fun e => (⟨#[e]⟩ : Str)) ++ [10]) = [[txC (pageT (pgW 0)) k (ys.map fun e => (⟨#[e]⟩ : Str))]] ∧ (txC (pageT (pgW 0)) k (ys.map fun e => (⟨#[e]⟩ : Str))).length = 9 + ys.length := fun ys hy => by
    have ef : ∀ ys : List Nat, ((ys.map fun e => (⟨#[e]⟩ : Str)).map cl).flatten = ys := by
      intro ys
      induction ys with
      | nil => rfl
      | cons e ys ih =>
        rw [List.map_cons, List.map_cons, List.flatten_cons, ih]
        rfl
    have e : txC (pageT (pgW 0)) k (ys.map fun e => (⟨#[e]⟩ : Str)) = (cl (pageT (pgW 0))).take k ++ ys ++ (cl (pageT (pgW 0))).drop k := by
      unfold txC
      rw [ef]
    rw [e]
    constructor
    · rw [go_plain]
      · rfl
      · intro q hq
        have hz : ∀ q ∈ cl (pageT (pgW 0)), q ≠ 9 ∧ q ≠ 10 := by rw [cl_W0]; decide
        rcases List.mem_append.mp hq with hq | hq
        · rcases List.mem_append.mp hq with hq | hq
          · exact hz q (List.mem_of_mem_take hq)
          · have := hy q hq
            unfold SgOk at this
            omega
        · exact hz q (List.mem_of_mem_drop hq)
    · have l9 : (cl (pageT (pgW 0))).length = 9 := by rw [cl_W0]; rfl
      rw [List.length_append, List.length_append, List.length_take, List.length_drop]
      omega
  have good : ∀ ys : List Nat, (∀ e ∈ ys, SgOk e) → ys.length ≤ 1 → PgOk (rowsT (tx (pageT (pgW 0)) k (ys.map fun e => (⟨#[e]⟩ : Str)))) := fun ys hy hl => by
    obtain ⟨h1, h2⟩ := key ys hy
    refine pg_tx s (fun y hy2 => ?_) ?_
    · obtain ⟨e, he, rfl⟩ := List.mem_map.mp hy2
      exact .inr (.inr ⟨e, rfl, hy e he⟩)
    · rw [h1]
      unfold goodM
      simp
      omega
  refine ⟨mc, md, s, by rw [len_W.1]; decide, by rw [len_W.1]; omega, good [] (fun e he => by cases he) (by decide), good [c] (fun e he => by rw [List.mem_singleton] at he; rw [he]; exact hc) (by show 1 ≤ 1; decide), good [d] (fun e he => by rw [List.mem_singleton] at he; rw [he]; exact hd) (by show 1 ≤ 1; decide), npg_tx ?_⟩
  obtain ⟨h1, h2⟩ := key [c, d] fun e he => by
    rcases List.mem_cons.mp he with q | q
    · rw [q]; exact hc
    · rw [List.mem_singleton] at q; rw [q]; exact hd
  have h1 : goR [] [] (txC (pageT (pgW 0)) k [⟨#[c]⟩, ⟨#[d]⟩] ++ [10]) = [[txC (pageT (pgW 0)) k [⟨#[c]⟩, ⟨#[d]⟩]]] := h1
  have h2 : (txC (pageT (pgW 0)) k [⟨#[c]⟩, ⟨#[d]⟩]).length = 11 := h2
  rw [h1]
  unfold goodM
  simp [h2]
theorem mark_tab : MarkOk tabS := .inl rfl
theorem mark_line : MarkOk lineS := .inr (.inl rfl)
theorem room1 {k : Nat} (hk : k ≤ 4) : RoomOk (pageT (pgW 1)) k tabS tabS := by
  have s : TxtSg (pageT (pgW 1)) := txtSg_of (by decide +kernel)
  have m1 : ∀ y ∈ [tabS], MarkOk y := fun y hy => by rw [List.mem_singleton] at hy; rw [hy]; exact mark_tab
  have m0 : ∀ y ∈ ([] : List Str), MarkOk y := fun y hy => by cases hy
  have f : ∀ k, k < 5 → goodM (goR [] [] (txC (pageT (pgW 1)) k [] ++ [10])) = true ∧ goodM (goR [] [] (txC (pageT (pgW 1)) k [tabS] ++ [10])) = true ∧ goodM (goR [] [] (txC (pageT (pgW 1)) k [tabS, tabS] ++ [10])) = false := by decide +kernel
  obtain ⟨f0, f1, f2⟩ := f k (by omega)
  exact ⟨mark_tab, mark_tab, s, by rw [len_W.2.1]; decide, by rw [len_W.2.1]; exact hk, pg_tx s m0 f0, pg_tx s m1 f1, pg_tx s m1 f1, npg_tx f2⟩
theorem room2 {k : Nat} (hk : k ≤ 5) : RoomOk (pageT (pgW 2)) k lineS lineS := by
  have s : TxtSg (pageT (pgW 2)) := txtSg_of (by decide +kernel)
  have m1 : ∀ y ∈ [lineS], MarkOk y := fun y hy => by rw [List.mem_singleton] at hy; rw [hy]; exact mark_line
  have m0 : ∀ y ∈ ([] : List Str), MarkOk y := fun y hy => by cases hy
  have f : ∀ k, k < 6 → goodM (goR [] [] (txC (pageT (pgW 2)) k [] ++ [10])) = true ∧ goodM (goR [] [] (txC (pageT (pgW 2)) k [lineS] ++ [10])) = true ∧ goodM (goR [] [] (txC (pageT (pgW 2)) k [lineS, lineS] ++ [10])) = false := by decide +kernel
  obtain ⟨f0, f1, f2⟩ := f k (by omega)
  exact ⟨mark_line, mark_line, s, by rw [len_W.2.2]; decide, by rw [len_W.2.2]; omega, pg_tx s m0 f0, pg_tx s m1 f1, pg_tx s m1 f1, npg_tx f2⟩
theorem room_W {way k c d : Nat} (hw : way < 3) (hk : k ≤ 5) (hl : k ≤ (pageT (pgW way)).length) (hc : SgOk c) (hd : SgOk d) : RoomOk (pageT (pgW way)) k (sgW way ⟨#[c]⟩ ⟨#[d]⟩).1 (sgW way ⟨#[c]⟩ ⟨#[d]⟩).2 := by
  have w3 : way = 0 ∨ way = 1 ∨ way = 2 := by omega
  rcases w3 with e | e | e
  · rw [e]
    exact room0 hk hc hd
  · rw [e] at hl ⊢
    rw [len_W.2.1] at hl
    exact room1 hl
  · rw [e]
    exact room2 hk
theorem pg_W {way : Nat} (hw : way < 3) : PgOk (pgW way) := by
  have e : ∀ rows : List (List Str), (decide (1 ≤ rows.length) && decide (rows.length ≤ 30) && rows.all fun r => decide (1 ≤ r.length) && decide (r.length ≤ 6) && r.all fun z => decide (z.length ≤ 10) && (cl z).all fun c => decide (32 ≤ c ∧ c ≤ 126 ∧ c ≠ 37)) = true → PgOk rows := fun rows h => by
    rw [Bool.and_eq_true, Bool.and_eq_true, List.all_eq_true] at h
    refine ⟨of_decide_eq_true h.1.1, of_decide_eq_true h.1.2, fun r hr => ?_⟩
    have h2 := h.2 r hr
    rw [Bool.and_eq_true, Bool.and_eq_true, List.all_eq_true] at h2
    refine ⟨of_decide_eq_true h2.1.1, of_decide_eq_true h2.1.2, fun z hz => ?_⟩
    have h3 := h2.2 z hz
    rw [Bool.and_eq_true, List.all_eq_true] at h3
    exact ⟨of_decide_eq_true h3.1, fun c hc => of_decide_eq_true (h3.2 c hc)⟩
  have w3 : way = 0 ∨ way = 1 ∨ way = 2 := by omega
  rcases w3 with q | q | q <;> rw [q] <;> exact e _ (by decide +kernel)
/-! ### going right -/
theorem ord0 {n k : Nat} (hk : k ≤ n) : ordG n k 0 = List.range n := by
  unfold ordG
  have e : n = k + (n - k) := by omega
  rw [List.range'_zero, List.append_nil, List.range_eq_range', List.range_eq_range', show List.range' k (n - k) = List.range' (0 + k) (n - k) from by rw [Nat.zero_add], List.range'_append_1, ← e]
theorem GS_k {z : Str} {k k' : Nat} {sp : List Nat} {us : List (List Nat)} (h1 : k ≤ z.length) (h2 : k' ≤ z.length) : GS z k [] [] sp us = GS z k' [] [] sp us := by
  unfold GS
  have e : ordG (z.length + 1) k ([] : List Str).length = ordG (z.length + 1) k' ([] : List Str).length := (ord0 (show k ≤ z.length + 1 by omega)).trans (ord0 (show k' ≤ z.length + 1 by omega)).symm
  rw [e]
theorem start_G (z : Str) (m : Nat) : startR z (2 + m) = GS z 0 [] [] (spG 0 m) (usG [] [] m) := by
  have e : startR z (2 + m) = startR z (m + 2) := by rw [Nat.add_comm]
  rw [e]
  unfold startR GS
  have e1 : sgG z [] = sgS z ++ [("" : Str)] := List.append_nil _
  have e2 : ordG (z.length + 1) 0 ([] : List Str).length = List.range (z.length + 1) := ord0 (Nat.zero_le _)
  rw [e1, e2]
  rfl
theorem right_G {z : Str} {h k : Nat} {sp : List Nat} {us : List (List Nat)} (hh : sp.getD h 0 = k) (hk : k ≤ z.length) (hlt : h < sp.length) : (goR1 (GS z 0 [] [] sp us) h 1).2 = GS z 0 [] [] (sp.set h (min (k + 1) z.length)) us := by
  have e : hereR (GS z 0 [] [] sp us) = List.range (z.length + 1) := by
    have := here_G (z := z) (k := 0) (xs := []) (ds := []) (sp := sp) (us := us) (Nat.zero_le _)
    rw [this]
    show [] ++ [] ++ List.range' 0 (z.length + 1 - 0) = _
    rw [List.nil_append, List.nil_append, Nat.sub_zero, List.range_eq_range']
  have ei : (List.range (z.length + 1)).idxOf k = k := by
    have hm : k ∈ List.range (z.length + 1) := List.mem_range.mpr (by omega)
    obtain ⟨g1, g2, _⟩ := idx_nat hm
    rw [List.getElem?_eq_getElem g2, List.getElem_range] at g1
    exact Option.some.inj g1
  have e1 : (GS z 0 [] [] sp us).spots.getD h 0 = k := hh
  have en : nearR (GS z 0 [] [] sp us) h 1 = if k < z.length then some (k + 1) else none := by
    unfold nearR
    rw [e1, e, ei, List.length_range]
    by_cases c : k < z.length
    · rw [if_pos ⟨by omega, by omega⟩, if_pos c]
      have : (((k : Nat) : Int) + 1).toNat = k + 1 := by omega
      rw [this, List.getElem?_range (by omega)]
    · rw [if_neg (by omega), if_neg c]
  unfold goR1
  rw [en]
  by_cases c : k < z.length
  · rw [if_pos c, Nat.min_eq_left (by omega)]
    rfl
  · rw [if_neg c, Nat.min_eq_right (by omega)]
    have ek : k = z.length := by omega
    have es : sp.set h z.length = sp := by
      have h1 : sp[h]? = some z.length := by
        rw [List.getD_eq_getElem?_getD, List.getElem?_eq_getElem hlt] at hh
        rw [List.getElem?_eq_getElem hlt, ← ek, ← hh]
        rfl
      apply List.ext_getElem?
      intro i
      by_cases q : i = h
      · rw [q, List.getElem?_set_self hlt, h1]
      · rw [List.getElem?_set_ne (fun z => q z.symm)]
    rw [es]
end TG

namespace TG
open PySem PySem.Spec PyProof.Rows L2 NdefX GenW Gx Lv
/-! ### list.count, flat items -/
theorem cntU {y : V} : ∀ {ys : List V} {its : List Value}, Vals ys its → ys.all flatV = true → its.countP (eqU y) = ys.countP (fun z => eqV z y)
  | [], _, .nil, _ => rfl
  | z :: ys, _, .cons r t, f => by
    rw [List.all_cons, Bool.and_eq_true] at f
    rw [List.countP_cons, List.countP_cons, eqU_of r f.1, cntU t f.2]
def rCnt (K : PySem.W.Frag) : V → List V → Hp → VK → Prop := fun x xs H Q => ∃ (a : Addr) (ys : List V) (y : V), x = .ref a ∧ xs = [y] ∧ SqL K H a ys ∧ flatV y = true ∧ ys.all flatV = true ∧ Q (.int (ys.countP (fun z => eqV z y) : Nat)) H
theorem mt_cnt {X : Cx} : MtR X "list.count" (rCnt X.K) := by
  intro pins s σ H x xs v us Q I rx rxs h
  obtain ⟨a, ys, y, rfl, rfl, hs, fy, fys, q⟩ := h
  cases rx
  obtain ⟨u, rfl, ru⟩ := rxs.one
  obtain ⟨its, rv, ⟨⟨cls, dd, data, sl⟩, n, ho, hc, hdn, hd⟩, hlen⟩ := I.list hs
  simp only at hc hd
  subst hc hd
  have ec : its.toArray.toList.countP (eqU y) = ys.countP (fun z => eqV z y) := cntU rv fys
  refine call_meets PySem.F.slot_list_count ⟨_, ho, rfl⟩ PySem.F.entry_list_count (PySem.F.args_list_count_2 _ _) (SeqAt.list_countAt a its.toArray n dd sl u (eqU y)) ⟨ho, fun w hw => mem_eqAt ru fy rv fys w (by simpa using hw), ?_⟩
  refine ⟨.int (ys.countP (fun z => eqV z y) : Nat), H, I.tok _, ⟨s.toks, ?_⟩, q⟩
  rw [← ec]
/-! ### isinstance and fields of a caught error -/
/-- its dict, if it has one, is told of -/
def XdAt (H : Hp) (d : Option Addr) : Prop := d = none ∨ ∃ dd fs, d = some dd ∧ H dd = some (.xd fs)
def rIsX (K : PySem.W.Frag) (cls : Value) (d : Option Addr) (a : Addr) : List V → Hp → VK → Prop := fun xs H Q => ∃ (c : V) (cv : Value) (b : Bool) (D : Addr), xs = [.ref a, c] ∧ cls = .ref D ∧ ExcC K D ∧ (∀ u, RelV c u → u = cv) ∧ PySem.W.kitOne K (.ref D) cv = some b ∧ XdAt H d ∧ Q (.bl b) H
theorem isCls_of {K : PySem.W.Frag} {D : Addr} (h : PySem.W.hasDictIn K D = true) : (PySem.W.clsIn K D).isSome = true := by
  obtain ⟨cd, hc, _⟩ := PySem.W.any_some h
  rw [hc]
  rfl
section
variable {X : Cx} {a : Addr} {oe : Obj} {cls : Value} {d : Option Addr} {pn : List (Addr × Obj)}
theorem call_isX (hz : Zc cls d oe) (hf : ∃ vs, oe.data = .fields vs) : CallR (X.suite a ((a, oe) :: pn)) (.builtin "isinstance") (rIsX X.K cls d a) := by
  intro pins s σ H xs us Q I r h
  obtain ⟨c, cv, b, D, rfl, rfl, C, hcv, e, hd, q⟩ := h
  cases r with
  | cons rx rr =>
    cases rr with
    | cons rt rr =>
      cases rr
      cases rx
      have ec := hcv _ rt
      subst ec
      obtain ⟨hget, _⟩ := I.pin (a, oe) (List.mem_append.mpr (.inl List.mem_cons_self))
      obtain ⟨vs, hv⟩ := hf
      have nc : PySem.W.notCls oe = true := by
        unfold PySem.W.notCls
        rw [hv] <;> rfl
      have fin : ∀ tk, EP (X.suite a ((a, oe) :: pn)) pins σ Q (.bool b) { s with toks := tk } := fun tk => ⟨.bl b, H, I.kept (t' := tk) fun _ _ z => z, rfl, q⟩
      rcases hd with rfl | ⟨dd, fs, rfl, hdd⟩
      · have J : PySem.W.InstAt s.heap a oe D none := by
          obtain ⟨h1, h2⟩ := hz
          refine ⟨hget, h1, nc, ?_⟩
          rw [h2]
          trivial
        exact PySem.W.kia_one (PySem.W.kitx_exc (isCls_of C.hd) C.hg C.hk C.hs C.ha C.hn C.ht C.hm) I.kIn J e (fun z => nomatch z) fin
      · have hx : ObjOk X.prog X.w H s.heap dd (.xd fs) := I.hok dd _ hdd
        obtain ⟨mA, hns, _⟩ := hx
        obtain ⟨od, ho, _⟩ := lookIn_ns hns
        have J : PySem.W.InstAt s.heap a oe D (some od) := ⟨hget, hz.1, nc, by rw [hz.2]; exact ho⟩
        exact PySem.W.kia_one (PySem.W.kitx_exc (isCls_of C.hd) C.hg C.hk C.hs C.ha C.hn C.ht C.hm) I.kIn J e (fun z => nomatch z) fin
def tXfX (K : PySem.W.Frag) (a : Addr) (cls : Value) (d : Option Addr) (f : Str) (te : TE) : TE := fun σ H Q => ∃ C : Addr, XfC K C ∧ PySem.W.findIn K (.ref C) f = some none ∧ tXf a cls d C f te σ H Q
theorem pe_xfX {e : Expr} {te : TE} {pos : Pos} {n : Str} (hz : Zc cls d oe) (hf : ∃ vs, oe.data = .fields vs) (he : PE (X.suite a ((a, oe) :: pn)) e te) (hb : attributeBase e n X.env (eval e X.env) = eval e X.env := by rfl) :
    PE (X.suite a ((a, oe) :: pn)) (.Attribute e n pos) (tXfX X.K a cls d n te) := by
  refine ⟨fun pins s σ H Q I h => ?_⟩
  obtain ⟨C, T, hno, h⟩ := h
  exact (pe_xf T hno hz hf he hb).run pins s σ H Q I h
end
/-! ### rules for an except suite, whose readings don't speak of the error's object -/
section
variable {X : Cx} {a : Addr} {l : List (Addr × Obj)}
theorem ix_listU : IxR (X.suite a l) (rIxL X.K) := ix_list
theorem op_inU : OpR (X.suite a l) (compareOp .In) (rIn X.K false) := op_in_seq
theorem mt_cntU : MtR (X.suite a l) "list.count" (rCnt X.K) := mt_cnt
theorem mt_indexU : MtR (X.suite a l) "list.index" (rIndex X.K) := mt_index
theorem pe_bmU {T name id : String} {r : V → List V → Hp → VK → Prop} {o e : Expr} {es : List Expr} {to : TE} {t : L2.TA} {apos cpos : Pos} (pa : PlainAttrs T) (slot : Slot T (name : Str) id) (hty : typeOf (.builtin id) = pure (.type "method_descriptor")) (hm : MtR (X.suite a l) id r)
    (ho : PE (X.suite a l) o to) (ha : PA (X.suite a l) (e :: es) t) (hbase : attributeBase o (name : Str) X.env (eval o X.env) = eval o X.env := by rfl)
    (hfew : ((backTo cpos (starEach (e :: es) X.env)).all (fun x => !x.1) && (backToKw cpos (keywordEach [] X.env)).all (fun x => x.1.isSome) && decide ((e :: es).length + ([] : List Keyword).length + (if ([] : List Keyword).isEmpty then 0 else 1) < 30)) = true := by rfl)
    (hline : (apos.endLine == cpos.line) = true := by rfl) (hs : starEach (e :: es) X.env = (false, eval e X.env) :: starEach es X.env := by rfl) (hplain : (backTo cpos (starEach es X.env)).any (·.1) = false := by rfl) :
    PE (X.suite a l) (.Call (.Attribute o (name : Str) apos) (e :: es) [] cpos) (tBM X.K T r to t) := pe_bm pa slot hty hm ho ha hbase hfew hline hs hplain
end
theorem xfC_of {K : PySem.W.Frag} {C : Addr} (h : ExcC K C) : XfC K C := ⟨h.hg, h.hk, h.hs, h.hd⟩
/-! ### a call by name of a lambda without parameters, in a try -/
def tCallX (P : Program) (w : World) (K : PySem.W.Frag) (mg : Str → Option Value) (base : Heap) (k i : Nat) (W : WX) : TE := fun σ H Q => ∃ (f : Addr) (F : NF) (e : Expr) (sp : Sp), σ[i]? = some (some (.ref f)) ∧ H f = some (FnL f F e) ∧ H F.c = some (LamX.CodeO F.c F.qual) ∧ LOkX P w K mg base k f F e sp ∧ sp [] H Q (WE W σ)
theorem pe_callX {X : Cx} {W : WX} {i k : Nat} {x : Str} {p pos : Pos} {P : Program} {w : World} {K : PySem.W.Frag} {mg : Str → Option Value} {base : Heap} (eX : X.prog = P ∧ X.w = w ∧ X.K = K ∧ X.mg = mg ∧ X.base = base) (hr : Room k X.A) (tk : Takes X W) (hN : X.N[i]? = some x) (hv : Vis X.env.scope x) (hd : (x == ("__debug__" : Str)) = false := by decide) (hcd : (x == ("__classdict__" : Str)) = false := by decide) :
    PE X (.Call (.Name x p) [] [] pos) (tCallX P w K mg base k i W) := by
  obtain ⟨rfl, rfl, rfl, rfl, rfl⟩ := eX
  refine ⟨fun pins s σ H Q I h => ?_⟩
  obtain ⟨f, F, b, sp, hs, hf, hc, L, q⟩ := h
  refine wpAny_Call_Name_kw (thn ((pe_var (pos := p) hN hv hd hcd).run pins s σ H (fun v H1 => v = .ref f ∧ H1 = H) I ⟨.ref f, hs, rfl, rfl⟩) fun u s1 ⟨v, H1, I1, r1, q1⟩ => ?_)
  obtain ⟨ev, eH⟩ := q1
  subst ev eH
  obtain rfl : u = Value.ref f := r1
  have at_ : PySem.W.FnAt f s1.heap := by
    obtain ⟨od, sl, pm, ctv, ho⟩ := fnL_at I1.hok hf
    exact ⟨_, od, _, sl, ho⟩
  refine PySem.W.callWith_F0 (first := []) at_ ?_
  refine wpAny_call (codeAny_mono (L.run X.A X.stack s1 H1 Q (WE W σ) hr I1.env0 hf hc q) fun r' s' hq => ?_)
  cases r' with
  | error er => exact passAt tk σ pins H1 s1 er s' I1 hq
  | ok fl =>
    cases fl with
    | ret u => exact I1.after hq
    | next => exact False.elim hq
    | brk => exact False.elim hq
    | cont => exact False.elim hq
end TG

namespace TG
open PySem PySem.Spec PyProof.Rows L2 NdefX GenW Gx Lv
/-! ### cells told of, and what a lambda caught -/
theorem caught_of {cells : List (Str × Addr)} {N names fr : List Str} {σ : L2.St} {cl : List (Addr × Obj)} {F : NF} {ws : List (Option V)} {H : Hp} (T : ToldC cells N names σ cl) (hF : F.cl = cloFrom cells F.scope.names [])
    (hfr : ∀ y, (y, NameKind.free) ∈ F.scope.names → y ∈ fr) (hrf : ∀ y ∈ fr, (y, NameKind.free) ∈ F.scope.names) (hsub : ∀ y ∈ fr, y ∈ names) (len : ws.length = fr.length) (told : ∀ c o, cl.lookup c = some o → H c = some (cellF o))
    (hw : ∀ (i : Nat) (y : Str) (v : V), fr[i]? = some y → ws[i]? = some (some v) → ∃ j : Nat, N[j]? = some y ∧ σ[j]? = some (some v)) : Caught F fr ws cl H := by
  have at_ : ∀ y c, F.cl.lookup y = some c → y ∈ fr ∧ ∃ o v, cells.lookup y = some c ∧ cl.lookup c = some o ∧ o.data = .cell v := fun y c e => by
    rw [hF] at e
    rcases cloFrom_mem (PySem.mem_of_lookup e) with z | ⟨z, hc⟩
    · cases z
    · have hy := hfr y z
      obtain ⟨c', o, v, e1, e2, e3⟩ := T.all y (hsub y hy)
      rw [e1] at hc
      have hc : c = c' := hc
      subst hc
      exact ⟨hy, o, v, e1, e2, e3⟩
  refine ⟨len, told, fun y c e => ?_, fun x y c e1 e2 => ?_, fun i y e => ?_⟩
  · obtain ⟨_, o, v, _, h2, h3⟩ := at_ y c e
    exact ⟨o, v, h2, h3⟩
  · obtain ⟨_, _, _, h1, _⟩ := at_ x c e1
    obtain ⟨_, _, _, h2, _⟩ := at_ y c e2
    exact T.inj x y c h1 h2
  · have hy : y ∈ fr := List.mem_of_getElem? e
    have hm := cloFrom_has (cells := cells) (acc := []) (hrf y hy)
    have hs : ∃ c, F.cl.lookup y = some c := by
      rw [hF]
      cases q : (cloFrom cells F.scope.names []).lookup y with
      | some c => exact ⟨c, rfl⟩
      | none =>
        have := List.lookup_eq_none_iff.mp q _ hm
        simp at this
    obtain ⟨c, hc⟩ := hs
    obtain ⟨_, o, v0, h1, h2, h3⟩ := at_ y c hc
    refine ⟨c, hc, fun v hv => ?_⟩
    obtain ⟨j, hj1, hj2⟩ := hw i y v e hv
    obtain ⟨u, e1, e2⟩ := T.val y (hsub y hy) c o h1 h2 j v hj1 hj2
    exact ⟨o, u, h2, e1, e2⟩
section
variable {cs : List (Addr × Addr)} {H H' : Hp} {cl : List (Addr × Obj)}
theorem add_at (un : ∀ c o, cl.lookup c = some o → H c = none) {b : Addr} {o : HO} (h : H b = some o) : addC H cl b = some o := by
  cases r : cl.lookup b with
  | some u => rw [un b u r] at h; cases h
  | none => rw [addC_out r]; exact h
theorem del_at (un : ∀ c o, cl.lookup c = some o → H c = none) {b : Addr} {o : HO} (h : H b = some o) : cl.lookup b = none := by
  cases r : cl.lookup b with
  | some u => rw [un b u r] at h; cases h
  | none => rfl
theorem add_none {D : Addr} (h : addC H cl D = none) : cl.lookup D = none ∧ H D = none := by
  cases r : cl.lookup D with
  | some u => rw [addC_in r] at h; cases h
  | none => rw [addC_out r] at h; exact ⟨rfl, h⟩
theorem del_upd_add (un : ∀ c o, cl.lookup c = some o → H c = none) {D : Addr} {o : HO} (hD : cl.lookup D = none) : delC (upd (addC H cl) D o) cl = upd H D o := by
  funext b
  cases r : cl.lookup b with
  | some u =>
    rw [delC_in r, upd_ne (fun z => by rw [z, hD] at r; cases r)]
    exact (un b u r).symm
  | none =>
    rw [delC_out r]
    by_cases hb : b = D
    · rw [hb, upd_same, upd_same]
    · rw [upd_ne hb, upd_ne hb, addC_out r]
theorem tabs_add (un : ∀ c o, cl.lookup c = some o → H c = none) (t : Tabs cs H) : Tabs cs (addC H cl) := fun p hp => by
  obtain ⟨ps, h1, h2⟩ := t p hp
  exact ⟨ps, add_at un h1, h2⟩
/-- what came of a heap with the cells told, the cells untold again -/
theorem ex_del (un : ∀ c o, cl.lookup c = some o → H c = none) (told : ∀ c o, cl.lookup c = some o → H' c = some (cellF o)) (x : Ex cs (addC H cl) H') : Ex cs H (delC H' cl) := by
  refine ⟨fun b o h n => ?_, fun p hp => ?_, fun b h => ?_, fun b o h n => ?_⟩
  · rw [delC_out (del_at un h)]
    exact x.ext b o (add_at un h) n
  · obtain ⟨ps, h1, h2⟩ := x.tab p hp
    have r : cl.lookup p.2 = none := by
      cases r : cl.lookup p.2 with
      | none => rfl
      | some u => rw [told _ u r] at h1; cases h1
    exact ⟨ps, by rw [delC_out r]; exact h1, h2⟩
  · cases r : cl.lookup b with
    | some u => exact un b u r
    | none =>
      rw [delC_out r] at h
      exact (add_none (x.old b h)).2
  · rw [delC_out (del_at un h)]
    exact x.oth b o (add_at un h) n
end
end TG

namespace TG
open PySem PySem.Spec PyProof.Rows L2 NdefX GenW Gx Lv
section
variable {P : Program} {w : World} {K : PySem.W.Frag} {mg : Str → Option Value} {base : Heap} {cs : List (Addr × Addr)} {B C G : Addr}
/-! ### _law_told, with two clauses -/
def spToldM (P : Program) (w : World) (K : PySem.W.Frag) (mg : Str → Option Value) (base : Heap) (C : Addr) (kl : Nat) : Sp := fun vs H Q _ => ∃ (f : Addr) (F : NF) (e : Expr) (sp : Sp),
  vs = [.ref f] ∧ H f = some (FnL f F e) ∧ H F.c = some (LamX.CodeO F.c F.qual) ∧ LOkX P w K mg base kl f F e sp ∧
  ∀ (Z : VK) (E : XK), (∀ v H', Q v H' → Z v H') → (∀ H', Q (.str "much") H' → E (.ref C) none H') → sp [] H Z E
theorem sc_toldM : FnScope ["_law_work", "_law_found"] ["_law_work"] (defScope s_told) := ⟨rfl, rfl, rfl, by decide +kernel, rfl, by decide +kernel, by decide +kernel⟩
theorem ok_toldM {f : Addr} {fd : FuncData} {kl : Nat} (Er : ErrC K mg "TooMuch" C G) (self : PySem.W.exmOne K (.ref C) (.ref C) = some true) (eG : mg "GrowError" = some (.ref G)) (F : Fun K "_law_told" "_law_told" s_told f fd) :
    FnOk P w K mg base CX0 (kl + 1) f fd ["_law_work"] (spToldM P w K mg base C kl) := by
  refine F.ok sc_toldM (fun vs H Q E h => ?_) (fun cdv A outer s H vs Q E hr h => ?_)
  · obtain ⟨f, F, e, sp, rfl, _⟩ := h
    rfl
  · obtain ⟨fl, Fl, el, sp, rfl, hf, hc, L, k⟩ := h
    have nd := sc_toldM.nd
    refine ⟨_, pss_cons (ps_set (i := 1) nd rfl (.inl rfl) pe_non)
      (pss_cons (ps_try_many rfl rfl takes0 (fun W pn xe tk _ => pss_one (ps_set (i := 1) nd rfl (.inl rfl) (pe_callX (P := P) (w := w) (K := K) (mg := mg) (base := base) (k := kl) (i := 0) ⟨rfl, rfl, rfl, rfl, rfl⟩ hr tk rfl (.inl rfl))))
        (.cons ⟨rfl, by decide, .inl Er.mg_⟩ (fun a oe cls d pn _ _ => pss_one (ps_set (i := 1) nd rfl (.inl rfl) pe_str))
          (.cons ⟨rfl, by decide, .inl eG⟩ (fun a oe cls d pn _ _ => pss_one (ps_set (i := 1) nd rfl (.inl rfl) pe_str)) .nil)))
      (pss_one (ps_ret (pv 1)))), ?_⟩
    exact ⟨fl, Fl, el, sp, rfl, hf, hc, L, k _ _ (fun v H' q => ⟨_, rfl, q⟩) fun H' q => ⟨true, self, fun _ a na => ⟨_, rfl, q⟩, fun z => nomatch z⟩⟩
end
end TG

namespace TG
open PySem PySem.Spec PyProof.Rows L2 NdefX GenW Gx Lv
/-! ### what a table tells, as it was told -/
abbrev v3G (p : Nat × Nat × Nat) : List V := [.int (p.1 : Nat), .int (p.2.1 : Nat), .int (p.2.2 : Nat)]
abbrev d3G (p : Nat × Nat × Nat) : PyData := .tuple [.int (p.1 : Nat), .int (p.2.1 : Nat), .int (p.2.2 : Nat)]
def toldE (d : Deed) : PyData := .tuple [.int (d.1 : Nat), .str d.2.1, .bool d.2.2.2]
abbrev rowsG (S : TSt) : List (List Str) := rowsT (textR S.signs (hereR S))
def dBef (S : TSt) : PyData := .list [.list (rowsD (rowsG S)), .list (S.deeds.map toldE), d3G (atR S 0), d3G (atR S 1)]
structure BefAt (A : Addr → Prop) (H : Hp) (S : TSt) (D : Addr) : Prop where
  ex : ∃ (r t u0 u1 : Addr) (ps ts : List Addr), H D = some (.lst [.ref r, .ref t, .ref u0, .ref u1]) ∧ H r = some (.lst (ps.map V.ref)) ∧ RowsAt ps (rowsG S) H ∧ H t = some (.lst (ts.map V.ref)) ∧ ts.length = S.deeds.length ∧
    (∀ (j : Nat) (q : Addr) (d : Deed), ts[j]? = some q → S.deeds[j]? = some d → H q = some (.tup (toldV d))) ∧ H u0 = some (.tup (v3G (atR S 0))) ∧ H u1 = some (.tup (v3G (atR S 1))) ∧ ¬ A D ∧ ¬ A r ∧ ¬ A t
theorem BefAt.km {A : Addr → Prop} {H H' : Hp} {S : TSt} {D : Addr} (o : BefAt A H S D) (x : KM A H H') (m : Mob H A) : BefAt A H' S D := by
  obtain ⟨r, t, u0, u1, ps, ts, h1, h2, h3, h4, h5, h6, h7, h8, n1, n2, n3⟩ := o.ex
  have f : ∀ {c : Addr} {us : List V}, H c = some (.lst us) → ¬ A c → H' c = some (.lst us) := fun h n => x _ _ h (fun ps z => by cases z) n
  exact ⟨r, t, u0, u1, ps, ts, f h1 n1, f h2 n2, ⟨h3.len, fun i q z e1 e2 => tup_km x m (h3.row i q z e1 e2)⟩, f h4 n3, h5, fun j q d e1 e2 => tup_km x m (h6 j q d e1 e2), tup_km x m h7, tup_km x m h8, n1, n2, n3⟩
theorem BefAt.ext {A : Addr → Prop} {H H' : Hp} {S : TSt} {D : Addr} (o : BefAt A H S D) (x : LamX.ExtN H H') : BefAt A H' S D := by
  obtain ⟨r, t, u0, u1, ps, ts, h1, h2, h3, h4, h5, h6, h7, h8, n1, n2, n3⟩ := o.ex
  have f : ∀ {c : Addr} {us : List V}, H c = some (.lst us) → H' c = some (.lst us) := fun h => x _ _ h (fun ps z => by cases z)
  have g : ∀ {c : Addr} {us : List V}, H c = some (.tup us) → H' c = some (.tup us) := fun h => x _ _ h (fun ps z => by cases z)
  exact ⟨r, t, u0, u1, ps, ts, f h1, f h2, ⟨h3.len, fun i q z e1 e2 => g (h3.row i q z e1 e2)⟩, f h4, h5, fun j q d e1 e2 => g (h6 j q d e1 e2), g h7, g h8, n1, n2, n3⟩
theorem dp_tolds {K : PySem.W.Frag} {H : Hp} : ∀ {ts : List Addr} {ds : List Deed}, ts.length = ds.length → (∀ (j : Nat) (q : Addr) (d : Deed), ts[j]? = some q → ds[j]? = some d → H q = some (.tup (toldV d))) → DpAll K H (ts.map V.ref) (ds.map toldE)
  | [], [], _, _ => .nil
  | [], _ :: _, h, _ => by simp at h
  | _ :: _, [], h, _ => by simp at h
  | t :: ts, d :: ds, h, k => .cons (.tup (SqT.of (k 0 t d rfl rfl)) (.cons (.int _) (.cons (.str _) (.cons (.bl _) .nil)))) (dp_tolds (by simpa using h) fun j q e h1 h2 => k (j + 1) q e (by simpa using h1) (by simpa using h2))
theorem dp_v3 {K : PySem.W.Frag} {H : Hp} {u : Addr} {p : Nat × Nat × Nat} (h : H u = some (.tup (v3G p))) : Dp K H (.ref u) (d3G p) := .tup (SqT.of h) (.cons (.int _) (.cons (.int _) (.cons (.int _) .nil)))
theorem BefAt.dp {K : PySem.W.Frag} {A : Addr → Prop} {H : Hp} {S : TSt} {D : Addr} (o : BefAt A H S D) : Dp K H (.ref D) (dBef S) := by
  obtain ⟨r, t, u0, u1, ps, ts, h1, h2, h3, h4, h5, h6, h7, h8, n1, n2, n3⟩ := o.ex
  exact .lst (SqL.of h1) (.cons (.lst (SqL.of h2) (dp_rows h3.len fun i q z e1 e2 => SqT.of (h3.row i q z e1 e2))) (.cons (.lst (SqL.of h4) (dp_tolds h5 h6)) (.cons (dp_v3 h7) (.cons (dp_v3 h8) .nil))))
theorem strOk_mark {z : Str} (h : MarkOk z ∨ z = "") : PyData.strOk z = true := by
  unfold PyData.strOk
  rw [← Array.all_toList, List.all_eq_true]
  intro c hc
  have hc : c ∈ cl z := hc
  rcases h with h | h
  · have := h.sg c hc
    unfold SgOk at this
    exact decide_eq_true (by omega)
  · rw [h] at hc
    have e0 : cl ("" : Str) = [] := by decide +kernel
    rw [e0] at hc
    cases hc
theorem can_tolds : ∀ ds : List Deed, (∀ d ∈ ds, MarkOk d.2.1 ∨ d.2.1 = "") → PyData.canLayAll0 (ds.map toldE) = true
  | [], _ => rfl
  | d :: ds, h => by
    rw [List.map_cons]
    have h1 := strOk_mark (h d (by simp))
    have h2 := can_tolds ds fun e he => h e (by simp [he])
    unfold toldE at h2 ⊢
    simp only [PyData.canLayAll0, PyData.canLay0, h1, h2, Bool.and_self]
theorem dep_tolds : ∀ ds : List Deed, PyData.depthAll (ds.map toldE) ≤ 1
  | [] => Nat.zero_le _
  | d :: ds => by
    have h := dep_tolds ds
    rw [List.map_cons]
    show max (PyData.depth (toldE d)) (PyData.depthAll (ds.map toldE)) ≤ 1
    have : PyData.depth (toldE d) = 1 := rfl
    omega
theorem shaped_bef {S : TSt} (h : PgOk (rowsG S)) (hd : ∀ d ∈ S.deeds, MarkOk d.2.1 ∨ d.2.1 = "") : SeqAt.shaped (dBef S) = true ∧ PyData.eqv (dBef S) (dBef S) = true := by
  have h1 := can_rows h
  have h2 := can_tolds S.deeds hd
  have h3 := depthAll_rows (rowsG S)
  have h4 := dep_tolds S.deeds
  have c3 : ∀ p, PyData.canLay0 (d3G p) = true := fun p => by simp [PyData.canLay0, PyData.canLayAll0]
  have e3 : ∀ p, PyData.depth (d3G p) = 1 := fun p => rfl
  have c : PyData.canLay0 (dBef S) = true := by
    unfold dBef
    have a3 := c3 (atR S 0)
    have b3 := c3 (atR S 1)
    generalize d3G (atR S 0) = a at a3
    generalize d3G (atR S 1) = b at b3
    have h2' : PyData.canLay0 (.list (S.deeds.map toldE)) = true := by simp only [PyData.canLay0]; exact h2
    generalize PyData.list (S.deeds.map toldE) = t at h2'
    generalize PyData.list (rowsD (rowsG S)) = r at h1
    simp only [PyData.canLay0, PyData.canLayAll0, a3, b3, h1, h2', Bool.and_self]
  have d : PyData.depth (dBef S) ≤ 64 := by
    unfold dBef
    have a3 := e3 (atR S 0)
    have b3 := e3 (atR S 1)
    generalize d3G (atR S 0) = a at a3
    generalize d3G (atR S 1) = b at b3
    simp only [PyData.depth, PyData.depthAll]
    omega
  refine ⟨?_, SeqAt.eqv_refl _ c⟩
  unfold SeqAt.shaped
  rw [c, decide_eq_true d]
  rfl
end TG

namespace TG
open PySem PySem.Spec PyProof.Rows L2 NdefX GenW Gx Lv
/-! ### all stays but what a box is -/
section
variable {cs : List (Addr × Addr)} {H H' : Hp} {A : Addr → Prop} {p : Addr} {q : Str}
theorem kb_kn {b l : Addr} (x : KB b l H H') : KN cs (fun c => c = b ∨ c = l) H H' := fun c o h _ n => x c o h (fun z => n (.inl z)) fun z => n (.inr z)
theorem box_mobT {b l : Addr} (h : BoxAt H b l) : Mob H (fun c => c = b ∨ c = l) := by
  obtain ⟨ns, s1, e1, e2, _⟩ := h
  exact fun c z => .inl (z.elim (fun e => e ▸ ⟨_, e1⟩) fun e => e ▸ ⟨_, e2⟩)
theorem tabs_km {b l : Addr} (x : KB b l H H') (h : BoxAt H b l) (t : Tabs cs H) : Tabs cs H' := fun r hr => by
  obtain ⟨ps, h1, h2⟩ := t r hr
  have m := box_mobT h
  refine ⟨ps, x _ _ h1 (fun z => ?_) (fun z => ?_), h2⟩
  · rcases m r.2 (.inl z) with ⟨us, e⟩ | ⟨C, dx, fs, e⟩ <;> rw [h1] at e <;> cases e
  · rcases m r.2 (.inr z) with ⟨us, e⟩ | ⟨C, dx, fs, e⟩ <;> rw [h1] at e <;> cases e
theorem box_kn {b l : Addr} (h : BoxAt H b l) (x : KN cs A H H') (nb : ¬ A b) (nl : ¬ A l) : BoxAt H' b l := by
  obtain ⟨ns, s1, e1, e2, e3⟩ := h
  exact ⟨ns, s1, x _ _ e1 (.inl fun ps z => by cases z) nb, x _ _ e2 (.inl fun ps z => by cases z) nl, e3⟩
theorem box_exT {b l : Addr} (h : BoxAt H b l) (x : Ex cs H H') : BoxAt H' b l := box_kn (cs := cs) (A := fun _ => False) h (fun c u h n _ => x.any h n) (fun z => z) (fun z => z)
theorem old_kb {b l : Addr} (x : KB b l H H') (hB : BoxAt H' b l) : ∀ c, H' c = none → H c = none := fun c n => by
  obtain ⟨d1, d2⟩ := new_ne hB n
  cases e : H c with
  | none => rfl
  | some o => rw [x c o e d1 d2] at n; cases n
theorem kn_exT (x : KN cs A H H') {H2 : Hp} (y : Ex cs H' H2) : KN cs A H H2 := fun c o h n m => y.any (x c o h n m) n
theorem bef_mk {H1 H2 H3 H4 : Hp} {S : TSt} {r t u0 u1 D : Addr} {ps : List Addr} (hT : Tabs cs H) (nA : ∀ c, H c = none → ¬ A c) (x1 : Ex cs H H1) (nr : H r = none) (hr : H1 r = some (.lst (ps.map V.ref))) (hps : RowsAt ps (rowsG S) H1)
    (tl : TupL H1 t (S.deeds.map toldV) H2) (x3 : Ex cs H2 H3) (h3 : H3 u0 = some (.tup (v3G (atR S 0)))) (x4 : Ex cs H3 H4) (h4 : H4 u1 = some (.tup (v3G (atR S 1)))) (nD : H4 D = none) :
    BefAt A (upd H4 D (.lst [.ref r, .ref t, .ref u0, .ref u1])) S D ∧ Ex cs H (upd H4 D (.lst [.ref r, .ref t, .ref u0, .ref u1])) := by
  have x2 := same_ex tl.sm x1.tab
  have x5 : Ex cs H4 (upd H4 D (.lst [.ref r, .ref t, .ref u0, .ref u1])) := Ex.laid x4.tab nD
  have x25 := x3.trans (x4.trans x5)
  have x15 := x2.trans x25
  obtain ⟨ts, g1, g2, g3⟩ := tl.ts
  refine ⟨⟨r, t, u0, u1, ps, ts, upd_same, x15.lst hr, ⟨hps.len, fun i q z e1 e2 => x15.tup (hps.row i q z e1 e2)⟩, x25.lst g1, by rw [g2, List.length_map], fun j q d e1 e2 => x25.tup (g3 j q _ e1 (by rw [List.getElem?_map, e2]; rfl)), (x4.trans x5).tup h3, x5.tup h4, nA _ ?_, nA _ nr, nA _ (x1.old _ tl.nD)⟩, x1.trans x15⟩
  exact x1.old _ (x2.old _ (x3.old _ (x4.old _ nD)))
end
/-! ### _law_refused -/
section
variable {P : Program} {w : World} {K : PySem.W.Frag} {mg : Str → Option Value} {base : Heap} {cs : List (Addr × Addr)} {B C : Addr}
def spRefused (P : Program) (w : World) (K : PySem.W.Frag) (mg : Str → Option Value) (base : Heap) (C : Addr) (kl : Nat) (cs : List (Addr × Addr)) (B : Addr) : Sp := fun vs H Q _ => ∃ (b l tb f : Addr) (a : TA) (S : TSt) (F : NF) (e : Expr) (sp : Sp), vs = [.ref b, .ref tb, .ref f] ∧ Tabs cs H ∧ BoxAt H b l ∧ TabD B H tb a S ∧ TOk S ∧ 2 ≤ S.spots.length ∧
  PgOk (rowsG S) ∧ (∀ d ∈ S.deeds, MarkOk d.2.1 ∨ d.2.1 = "") ∧ (∀ c, ownT tb a c → c ≠ b ∧ c ≠ l) ∧ H f = some (FnL f F e) ∧ H F.c = some (LamX.CodeO F.c F.qual) ∧ LOkX P w K mg base kl f F e sp ∧
  (∀ H1, KN cs (fun c => c = b ∨ c = l) H H1 → Tabs cs H1 → TabD B H1 tb a S → ∀ (Z : VK) (E : XK), (∀ H', Ex cs H1 H' → E (.ref C) none H') → sp [] H1 Z E) ∧
  ∀ H', KN cs (fun c => c = b ∨ c = l) H H' → Tabs cs H' → BoxAt H' b l → (∀ c, H' c = none → H c = none) → Q (.bl true) H'
abbrev nmRef : List Str := ["_law_box", "_law_table", "_law_work", "_law_before", "_law_turn"]
theorem sc_refused : FnScope nmRef ["_law_box", "_law_table", "_law_work"] (defScope s_refused) := ⟨rfl, rfl, rfl, by decide +kernel, rfl, by decide +kernel, by decide +kernel⟩
theorem ok_refused {f g2 g6 gp gt ga : Addr} {fd fd2 fd6 fdp fdt fda : FuncData} (T : Txt mg) (X : TabC K B) (F : Fun K "_law_refused" "_law_refused" s_refused f fd)
    (G2 : FnOk P w K mg base CX0 1 g2 fd2 ["_law_box", "_law_many"] spTake) (k2 : PySem.W.keepIn K (.ref g2) = true) (b2 : Binds K fd2 ["_law_box", "_law_many"] []) (m2 : mg "_law_take" = some (.ref g2))
    (G6 : FnOk P w K mg base CX0 15 g6 fd6 ["_law_work"] (spToldM P w K mg base C 14)) (k6 : PySem.W.keepIn K (.ref g6) = true) (b6 : Binds K fd6 ["_law_work"] []) (m6 : mg "_law_told" = some (.ref g6))
    (Mp : Meth K B "page" gp) (Gp : FnOk P w K mg base CX0 3 gp fdp ["self"] (spTPage cs B)) (bp : Binds K fdp ["self"] [])
    (Mt : Meth K B "told" gt) (Gt : FnOk P w K mg base CX0 1 gt fdt ["self"] (spTTold B)) (bt : Binds K fdt ["self"] [])
    (Ma : Meth K B "at" ga) (Ga : FnOk P w K mg base CX0 3 ga fda ["self", "hand"] (spTAt cs B)) (ba : Binds K fda ["self", "hand"] []) :
    FnOk P w K mg base CX0 16 f fd ["_law_box", "_law_table", "_law_work"] (spRefused P w K mg base C 14 cs B) := by
  refine F.ok sc_refused (fun vs H Q E h => ?_) (fun cdv A outer s H vs Q E hr h => ?_)
  · obtain ⟨b, l, tb, f, a, S, F, e, sp, rfl, _⟩ := h
    rfl
  · obtain ⟨b, l, tb, f, a, S, F, e, sp, rfl, hT, hB, hD, hO, h2, hpg, hds, dj, hf, hc, hL, kl, k⟩ := h
    have nd := sc_refused.nd
    have hu := hr.units
    have r1 : Room 1 _ := hr.mono (by decide)
    have r3 : Room 3 _ := hr.mono (by decide)
    refine ⟨_, pss_cons (ps_set (i := 3) nd rfl (.inl rfl) (pe_lst (pa_cons (pe_meth0 (pv 1) X.cls Mp Gp r3 bp .nil pass0) (pa_cons (pe_meth0 (pv 1) X.cls Mt Gt r1 bt .nil pass0) (pa_cons (pe_meth (pv 1) X.cls Ma Ga r3 ba .nil pass0 (pa_cons pe_int pa_nil)) (pa_cons (pe_meth (pv 1) X.cls Ma Ga r3 ba .nil pass0 (pa_cons pe_int pa_nil)) pa_nil))))))
      (pss_cons (ps_for PassesOwn.never rfl (pi_range1 (by rfl) T.range (pa_cons (pe_op op_add pe_int (pe_call G2 r1 (by rfl) m2 k2 b2 .nil pass0 (pa_cons (pv 0) (pa_cons pe_int pa_nil)))) pa_nil)) (pg_name (i := 4) nd rfl (.inl rfl))
        (pss_one (ps_if (PW.pt (pw_or (pt_cmpR op_ne (pe_call G6 hr (by rfl) m6 k6 b6 .nil pass0 (pa_cons (pv 2) pa_nil)) pe_str (nomark _))
          (pw_or1 (pt_cmpR (op_neD hu) (pe_lst (pa_cons (pe_meth0 (pv 1) X.cls Mp Gp r3 bp .nil pass0) (pa_cons (pe_meth0 (pv 1) X.cls Mt Gt r1 bt .nil pass0) (pa_cons (pe_meth (pv 1) X.cls Ma Ga r3 ba .nil pass0 (pa_cons pe_int pa_nil)) (pa_cons (pe_meth (pv 1) X.cls Ma Ga r3 ba .nil pass0 (pa_cons pe_int pa_nil)) pa_nil))))) (pv 3) (nomark _))))) (pss_one (ps_ret pe_bl)) pss_nil)))
      (pss_one (ps_ret pe_bl))), ?_⟩
    have nA : ∀ c, H c = none → ¬ (c = b ∨ c = l) := fun c n z => by
      rcases box_mobT hB c z with ⟨_, e⟩ | ⟨_, _, _, e⟩ <;> rw [n] at e <;> cases e
    refine ⟨_, rfl, tb, a.dx, _, rfl, hD.ob, rfl, tb, a, S, rfl, hT, hD, hO, fun r ps H1 x1 nr hr1 hps => ?_⟩
    have hD1 := hD.gw x1.ext
    refine ⟨_, rfl, tb, a.dx, _, rfl, hD1.ob, rfl, tb, a, S, rfl, hD1, hO, fun t H2 tl => ?_⟩
    have x12 := x1.trans (same_ex tl.sm x1.tab)
    have hD2 := hD.gw x12.ext
    refine ⟨_, rfl, tb, a.dx, _, rfl, hD2.ob, rfl, tb, 0, a, S, rfl, x12.tab, hD2, hO, by omega, fun u0 H3 x3 h3 => ?_⟩
    have x13 := x12.trans x3
    have hD3 := hD.gw x13.ext
    refine ⟨_, rfl, tb, a.dx, _, rfl, hD3.ob, rfl, tb, 1, a, S, rfl, x13.tab, hD3, hO, by omega, fun u1 H4 x4 h4 => ?_⟩
    refine ⟨by show 4 ≤ sizeLine; decide, fun D nD => ?_⟩
    obtain ⟨be, x5⟩ := bef_mk (S := S) (A := fun c => c = b ∨ c = l) hT nA x1 nr hr1 hps tl x3 h3 x4 h4 nD
    generalize upd H4 D (.lst [.ref r, .ref t, .ref u0, .ref u1]) = H5 at be x5 ⊢
    clear tl x1 x12 x13 x3 x4 hD1 hD2 hD3 h3 h4 nD hr1 hps nr
    have hB5 := box_exT hB x5
    refine ⟨_, rfl, b, l, 3, rfl, hB5, by decide, by decide, fun n H6 n0 n1 hB6 x6 => ⟨1, n, rfl, rfl, _, rfl, by omega, by omega, ?_⟩⟩
    have mB5 := box_mobT hB5
    have kn6 : KN cs (fun c => c = b ∨ c = l) H H6 := fun c o h q m => kb_kn (cs := cs) x6 c o (x5.any h q) q m
    have t6 := tabs_km x6 hB5 x5.tab
    have be6 := be.km (kb_kn (cs := cs) x6).w mB5
    have hD6 : TabD B H6 tb a S := (hD.gw x5.ext).km (kb_kn (cs := cs) x6).w mB5 fun c hc z => by
      have := dj c hc
      rcases z with z | z
      · exact this.1 z
      · exact this.2 z
    have old6 : ∀ c, H6 c = none → H c = none := fun c z => x5.old _ (old_kb x6 hB6 c z)
    have hf6 := kn6 f _ hf (.inl fun ps z => by cases z) (fun z => by rcases box_mobT hB f z with ⟨_, e⟩ | ⟨_, _, _, e⟩ <;> rw [hf] at e <;> cases e)
    have hc6 := kn6 F.c _ hc (.inl fun ps z => LamX.codeO_ne ps z) (fun z => by rcases box_mobT hB F.c z with ⟨_, e⟩ | ⟨_, _, _, e⟩ <;> rw [hc] at e <;> cases e)
    obtain ⟨s1, s2⟩ := shaped_bef hpg hds
    refine for_range (n := (1 + n).toNat) (fun _ σ H' => ∃ c4, σ = [some (.ref b), some (.ref tb), some (.ref f), some (.ref D), c4] ∧ Ex cs H6 H') ⟨_, rfl, Ex.refl t6⟩ ?_ ?_
    · rintro i σ H7 hi ⟨c4, rfl, x7⟩
      have nA7 : ∀ c, H7 c = none → ¬ (c = b ∨ c = l) := fun c n z => by
        rcases box_mobT (box_exT hB6 x7) c z with ⟨_, e⟩ | ⟨_, _, _, e⟩ <;> rw [n] at e <;> cases e
      have hD7 := hD6.gw x7.ext
      refine ⟨_, rfl, f, F, e, sp, rfl, x7.any hf6 (.inl fun ps z => by cases z), x7.any hc6 (.inl fun ps z => LamX.codeO_ne ps z), hL, fun Z E2 hZ hE => kl H7 (kn_exT kn6 x7) x7.tab hD7 Z E2 fun H8 x8 => hE H8 ?_⟩
      refine ⟨rfl, false, rfl, iteF ?_⟩
      have x78 := x7.trans x8
      have hD8 := hD6.gw x78.ext
      have nA8 : ∀ c, H8 c = none → ¬ (c = b ∨ c = l) := fun c n => nA7 c (x8.old c n)
      refine ⟨_, rfl, tb, a.dx, _, rfl, hD8.ob, rfl, tb, a, S, rfl, x8.tab, hD8, hO, fun r ps H1 x1 nr hr1 hps => ?_⟩
      have hD1 := hD8.gw x1.ext
      refine ⟨_, rfl, tb, a.dx, _, rfl, hD1.ob, rfl, tb, a, S, rfl, hD1, hO, fun t H2 tl => ?_⟩
      have x12 := x1.trans (same_ex tl.sm x1.tab)
      have hD2 := hD8.gw x12.ext
      refine ⟨_, rfl, tb, a.dx, _, rfl, hD2.ob, rfl, tb, 0, a, S, rfl, x12.tab, hD2, hO, by omega, fun u0 H3 x3 h3 => ?_⟩
      have x13 := x12.trans x3
      have hD3 := hD8.gw x13.ext
      refine ⟨_, rfl, tb, a.dx, _, rfl, hD3.ob, rfl, tb, 1, a, S, rfl, x13.tab, hD3, hO, by omega, fun u1 H4 x4 h4 => ?_⟩
      refine ⟨by show 4 ≤ sizeLine; decide, fun D2 nD2 => ?_⟩
      obtain ⟨be2, x9⟩ := bef_mk (S := S) (A := fun c => c = b ∨ c = l) x8.tab nA8 x1 nr hr1 hps tl x3 h3 x4 h4 nD2
      generalize upd H4 D2 (.lst [.ref r, .ref t, .ref u0, .ref u1]) = H9 at be2 x9 ⊢
      have x69 := x78.trans x9
      refine ⟨_, rfl, dBef S, dBef S, be2.dp, (be6.ext x69.ext).dp, s1, s1, ?_⟩
      rw [s2]
      exact ⟨false, rfl, iteF ⟨_, rfl, x69⟩⟩
    · rintro σ H7 ⟨c4, rfl, x7⟩
      exact k H7 (kn_exT kn6 x7) x7.tab (box_exT hB6 x7) fun c z => old6 c (x7.old c z)
end
end TG

namespace TG
open PySem PySem.Spec PyProof.Rows L2 NdefX GenW Gx Lv
/-! ### the law's lambdas -/
abbrev ApartT (cs : List (Addr × Addr)) (p : Addr) : Prop := ∀ q ∈ cs, q.2 ≠ p
abbrev LamT := Arguments × Expr × Scope
def sc00 : Scope := { kind := .function, names := [], isGenerator := false, isCoroutine := false }
def lamIf : Stmt → LamT
  | .If (.BoolOp _ (.UnaryOp _ (.Call _ [_, _, .Lambda p b sc _] _ _) _ :: _) _) _ _ _ => (p, b, sc)
  | _ => ({ posonlyargs := [], args := [], vararg := none, kwonlyargs := [], kw_defaults := [], kwarg := none, defaults := [] }, .Name "x" ⟨0, 0, 0, 0⟩, sc00)
def stAt (l : List Stmt) (i : Nat) : Stmt := l.getD i (.Pass ⟨0, 0, 0, 0⟩)
abbrev lamA : LamT := lamIf (stAt (defBody s_pressed_again) 3)
abbrev lamB : LamT := lamIf (stAt (defBody s_rubbed_back) 5)
abbrev qA : Str := ("_law_pressed_again" : Str) ++ ".<locals>." ++ "<lambda>"
abbrev qB : Str := ("_law_rubbed_back" : Str) ++ ".<locals>." ++ "<lambda>"
abbrev capT : List Str := ["_law_table"]
theorem sc_la : NScope capT [] capT lamA.2.2 := nscope_by (by decide +kernel)
theorem sc_lb : NScope capT [] capT lamB.2.2 := nscope_by (by decide +kernel)
section
variable {P : Program} {w : World} {K : PySem.W.Frag} {mg : Str → Option Value} {base : Heap} {cs : List (Addr × Addr)} {B C : Addr}
def spLamG (sp : Sp) (F : NF) : Sp := fun vs H Q E => vs = [] ∧ ∃ (tb : Addr) (cl : List (Addr × Obj)), Caught F capT [some (.ref tb)] cl H ∧
  sp [.ref tb, .int ((0 : Nat) : Int)] (delC H cl) (fun v H' => (∀ c o, cl.lookup c = some o → H' c = none) → Q v (addC H' cl)) (fun cls d H' => (∀ c o, cl.lookup c = some o → H' c = none) → E cls d (addC H' cl))
theorem lok_a {q : Str} {c' f g : Addr} {fdg : FuncData} {lc : List (Str × Addr)} (X : TabC K B) (M : Meth K B "again" g) (G : FnOk P w K mg base (L2.CX P w) 13 g fdg ["self", "hand"] (spTAgain cs B C)) (bd : Binds K fdg ["self", "hand"] []) :
    LOkX P w K mg base 14 f ⟨"<lambda>", q, lamA.1, [], lamA.2.2, lc, c'⟩ lamA.2.1 (spLamG (spTAgain cs B C) ⟨"<lambda>", q, lamA.1, [], lamA.2.2, lc, c'⟩) := by
  refine lokx_of (N := capT) (fr := capT) sc_la (fun pm ctv => rfl) fun A outer s H Q E hr h => ?_
  obtain ⟨_, tb, cl, hC, hsp⟩ := h
  refine ⟨[some (.ref tb)], cl, _, hC, pe_methS (pv 0) X.cls M G hr bd (fun σ => passAt (takes_of rfl rfl rfl rfl) σ) (pa_cons pe_int pa_nil), ?_⟩
  obtain ⟨tb2, h2, a, S, e, hT, hD, r⟩ := id hsp
  injection e with e1 e2
  injection e1 with e1
  subst e1
  exact ⟨_, rfl, tb, a.dx, _, rfl, hD.ob, rfl, hsp⟩
theorem lok_b {q : Str} {c' f g : Addr} {fdg : FuncData} {lc : List (Str × Addr)} (X : TabC K B) (M : Meth K B "back" g) (G : FnOk P w K mg base (L2.CX P w) 13 g fdg ["self", "hand"] (spTBack cs B C)) (bd : Binds K fdg ["self", "hand"] []) :
    LOkX P w K mg base 14 f ⟨"<lambda>", q, lamB.1, [], lamB.2.2, lc, c'⟩ lamB.2.1 (spLamG (spTBack cs B C) ⟨"<lambda>", q, lamB.1, [], lamB.2.2, lc, c'⟩) := by
  refine lokx_of (N := capT) (fr := capT) sc_lb (fun pm ctv => rfl) fun A outer s H Q E hr h => ?_
  obtain ⟨_, tb, cl, hC, hsp⟩ := h
  refine ⟨[some (.ref tb)], cl, _, hC, pe_methS (pv 0) X.cls M G hr bd (fun σ => passAt (takes_of rfl rfl rfl rfl) σ) (pa_cons pe_int pa_nil), ?_⟩
  obtain ⟨tb2, h2, a, S, e, hT, hD, r⟩ := id hsp
  injection e with e1 e2
  injection e1 with e1
  subst e1
  exact ⟨_, rfl, tb, a.dx, _, rfl, hD.ob, rfl, hsp⟩
end
/-! ### heaps with cells told, and without -/
section
variable {cs : List (Addr × Addr)} {H H' H1 : Hp} {cl : List (Addr × Obj)}
theorem del_keep (told : ∀ c o, cl.lookup c = some o → H1 c = some (cellF o)) {c : Addr} {o : HO} (h : H1 c = some o) (n : ∀ u, o ≠ cellF u) : delC H1 cl c = some o := by
  cases r : cl.lookup c with
  | some u =>
    rw [told c u r] at h
    cases h
    exact absurd rfl (n u)
  | none => rw [delC_out r]; exact h
theorem lst_ncell {xs : List V} (u : Obj) : (HO.lst xs) ≠ cellF u := fun z => by unfold cellF at z; cases z
theorem tup_ncell {xs : List V} (u : Obj) : (HO.tup xs) ≠ cellF u := fun z => by unfold cellF at z; cases z
theorem ins_ncell {C dx : Addr} {fs : List (Str × V)} (u : Obj) : (HO.ins C dx fs) ≠ cellF u := fun z => by unfold cellF at z; cases z
theorem tabs_del (told : ∀ c o, cl.lookup c = some o → H1 c = some (cellF o)) (t : Tabs cs H1) : Tabs cs (delC H1 cl) := fun r hr => by
  obtain ⟨ps, h1, h2⟩ := t r hr
  exact ⟨ps, del_keep told h1 (fun u z => by unfold cellF at z; cases z), h2⟩
theorem TabD.del {B tb : Addr} {a : TA} {S : TSt} (o : TabD B H1 tb a S) (told : ∀ c o, cl.lookup c = some o → H1 c = some (cellF o)) : TabD B (delC H1 cl) tb a S :=
  ⟨del_keep told o.ob ins_ncell, del_keep told o.sg lst_ncell, del_keep told o.od lst_ncell, del_keep told o.th lst_ncell, ⟨del_keep told o.de.lst lst_ncell, o.de.len, fun i t d h1 h2 => del_keep told (o.de.at_ i t d h1 h2) tup_ncell⟩, del_keep told o.sp lst_ncell, del_keep told o.ud lst_ncell, o.ul, fun i u l h1 h2 => del_keep told (o.un i u l h1 h2) lst_ncell, o.nd, o.dj⟩
theorem ex_add (told : ∀ c o, cl.lookup c = some o → H1 c = some (cellF o)) (x : Ex cs (delC H1 cl) H') (un : ∀ c o, cl.lookup c = some o → H' c = none) : Ex cs H1 (addC H' cl) := by
  refine ⟨fun b o h n => ?_, tabs_add un x.tab, fun b h => ?_, fun b o h n => ?_⟩
  · cases r : cl.lookup b with
    | some u => rw [addC_in r, ← told b u r]; exact h
    | none => rw [addC_out r]; exact x.ext b o (by rw [delC_out r]; exact h) n
  · obtain ⟨r, h2⟩ := add_none h
    have := x.old b h2
    rw [delC_out r] at this
    exact this
  · cases r : cl.lookup b with
    | some u => rw [addC_in r, ← told b u r]; exact h
    | none => rw [addC_out r]; exact x.oth b o (by rw [delC_out r]; exact h) n
end
/-! ### all that stands while a table is tried -/
section
variable {cs : List (Addr × Addr)} {H H' : Hp} {A : Addr → Prop} {p : Addr} {q : Str}
theorem tabS_kn (x : KN cs A H H') (m : Mob H A) (ne : ApartT cs p) (t : LamX.TabS H p q) : LamX.TabS H' p q := by
  have na : ∀ {c : Addr} {o : HO}, H c = some o → (∀ us, o ≠ .lst us) → (∀ C dx fs, o ≠ .ins C dx fs) → ¬ A c := fun h n1 n2 z => by
    rcases m _ z with ⟨us, e⟩ | ⟨C, dx, fs, e⟩ <;> rw [e] at h <;> cases h
    · exact n1 _ rfl
    · exact n2 _ _ _ rfl
  obtain ⟨ps, h1, h2, h3⟩ := t
  refine ⟨ps, x _ _ h1 (.inr ne) (na h1 (fun us z => by cases z) fun C dx fs z => by cases z), h2, fun pos cv hc => ?_⟩
  obtain ⟨c, e1, e2⟩ := h3 pos cv hc
  exact ⟨c, e1, x _ _ e2 (.inl fun ps => LamX.codeO_ne ps) (na e2 (fun us z => by unfold LamX.CodeO at z; cases z) fun C dx fs z => by unfold LamX.CodeO at z; cases z)⟩
end
structure MS (K : PySem.W.Frag) (cs : List (Addr × Addr)) (B p1 p2 b l : Addr) (A0 : Addr → Prop) (H0 : Hp) (sg : Addr) (x y : Str) (L : List (Addr × HO)) (tb : Addr) (a : TA) (S : TSt) (H : Hp) : Prop where
  box : BoxAt H b l
  tab : TabD B H tb a S
  tbs : Tabs cs H
  l1 : LamX.TabS H p1 qA
  l2 : LamX.TabS H p2 qB
  n1 : ApartT cs p1
  n2 : ApartT cs p2
  nn : p1 ≠ p2
  dj : ∀ c, ownT tb a c → c ≠ b ∧ c ≠ l
  far : KN ((p1, p1) :: (p2, p2) :: cs) A0 H0 H
  own : ∀ c, ownT tb a c → A0 c ∨ H0 c = none
  bl : A0 b ∧ A0 l
  old : ∀ c, H c = none → H0 c = none
  sgn : SqT K H sg [.str x, .str y]
  kp : ∀ q ∈ L, H q.1 = some q.2 ∧ (∀ ps, q.2 ≠ .tbl ps) ∧ ¬ ownT tb a q.1 ∧ q.1 ≠ b ∧ q.1 ≠ l
section
variable {K : PySem.W.Frag} {cs : List (Addr × Addr)} {B p1 p2 b l : Addr} {A0 : Addr → Prop} {H0 : Hp} {sg : Addr} {x y : Str} {L : List (Addr × HO)} {tb : Addr} {a a' : TA} {S S' : TSt} {H H' : Hp} {A : Addr → Prop}
theorem MS.step (o : MS K cs B p1 p2 b l A0 H0 sg x y L tb a S H) (k : KN cs A H H') (m : Mob H A) (hA : ∀ c, A c → ownT tb a c ∨ c = b ∨ c = l) (ow : ∀ c, ownT tb a' c → ownT tb a c ∨ H c = none) (t : Tabs cs H') (bx : BoxAt H' b l) (td : TabD B H' tb a' S') (od : ∀ c, H' c = none → H c = none) : MS K cs B p1 p2 b l A0 H0 sg x y L tb a' S' H' := by
  have nb : ∀ c, c = b ∨ c = l → H c ≠ none := fun c z e => by
    rcases box_mobT o.box c z with ⟨_, w⟩ | ⟨_, _, _, w⟩ <;> rw [e] at w <;> cases w
  refine ⟨bx, td, t, tabS_kn k m o.n1 o.l1, tabS_kn k m o.n2 o.l2, o.n1, o.n2, o.nn, fun c hc => ?_, fun c u h n na => ?_, fun c hc => ?_, o.bl, fun c h => o.old c (od c h), sqT_km k.w m o.sgn, fun q hq => ?_⟩
  · rcases ow c hc with z | z
    · exact o.dj c z
    · exact ⟨fun e => nb c (.inl e) z, fun e => nb c (.inr e) z⟩
  · refine k c u (o.far c u h n na) (n.imp id fun z p hp => z p (List.mem_cons_of_mem _ (List.mem_cons_of_mem _ hp))) fun z => ?_
    rcases hA c z with z | z | z
    · rcases o.own c z with w | w
      · exact na w
      · rw [w] at h; cases h
    · exact na (z ▸ o.bl.1)
    · exact na (z ▸ o.bl.2)
  · rcases ow c hc with z | z
    · exact o.own c z
    · exact .inr (o.old c z)
  · obtain ⟨h1, h2, h3, h4, h5⟩ := o.kp q hq
    refine ⟨k _ _ h1 (.inl h2) fun z => ?_, h2, fun z => ?_, h4, h5⟩
    · rcases hA _ z with z | z | z
      · exact h3 z
      · exact h4 z
      · exact h5 z
    · rcases ow _ z with z | z
      · exact h3 z
      · rw [z] at h1; cases h1
theorem MS.goes (o : MS K cs B p1 p2 b l A0 H0 sg x y L tb a S H) (k : KN cs (ownT tb a) H H') (ow : ∀ c, ownT tb a' c → ownT tb a c ∨ H c = none) (t : Tabs cs H') (od : ∀ c, H' c = none → H c = none) (td : TabD B H' tb a' S') : MS K cs B p1 p2 b l A0 H0 sg x y L tb a' S' H' :=
  o.step k o.tab.mob (fun c hc => .inl hc) ow t (box_kn o.box k (fun z => (o.dj b z).1 rfl) (fun z => (o.dj l z).2 rfl)) td od
theorem MS.ex (o : MS K cs B p1 p2 b l A0 H0 sg x y L tb a S H) (e : Ex cs H H') : MS K cs B p1 p2 b l A0 H0 sg x y L tb a S H' :=
  o.step (A := fun _ => False) (fun c u h n _ => e.any h n) (fun c z => z.elim) (fun c z => z.elim) (fun c h => .inl h) e.tab (box_exT o.box e) (o.tab.gw e.ext) e.old
theorem MS.boxed (o : MS K cs B p1 p2 b l A0 H0 sg x y L tb a S H) (k : KN cs (fun c => c = b ∨ c = l) H H') (t : Tabs cs H') (bx : BoxAt H' b l) (od : ∀ c, H' c = none → H c = none) : MS K cs B p1 p2 b l A0 H0 sg x y L tb a S H' :=
  o.step k (box_mobT o.box) (fun c h => .inr h) (fun c h => .inl h) t bx (o.tab.km k.w (box_mobT o.box) fun c hc z => by
    have := o.dj c hc
    rcases z with z | z
    · exact this.1 z
    · exact this.2 z) od
/-- a lambda is made -/
theorem MS.lamC (o : MS K cs B p1 p2 b l A0 H0 sg x y L tb a S H) {p : Addr} (hp : p = p1 ∨ p = p2) (k1 : ∀ b o, H b = some o → b ≠ p → H' b = some o) (k2 : ∀ b, H' b = none → H b = none) (t1 : p = p1 → LamX.TabS H' p1 qA) (t2 : p = p2 → LamX.TabS H' p2 qB) : MS K cs B p1 p2 b l A0 H0 sg x y L tb a S H' := by
  have tp : ∃ ps, H p = some (.tbl ps) := by
    rcases hp with e | e
    · obtain ⟨ps, h, _⟩ := id o.l1
      exact ⟨ps, e ▸ h⟩
    · obtain ⟨ps, h, _⟩ := id o.l2
      exact ⟨ps, e ▸ h⟩
  obtain ⟨ps0, hp0⟩ := tp
  have np : ∀ {c : Addr} {u : HO}, H c = some u → (∀ ps, u ≠ .tbl ps) → c ≠ p := fun h n e => by
    rw [e, hp0] at h
    cases h
    exact n _ rfl
  have kn : KN [(p, p)] (fun _ => False) H H' := fun c u h n _ => k1 c u h (by
    rcases n with n | n
    · exact np h n
    · exact fun e => n (p, p) (by simp) e.symm)
  have ext : LamX.ExtN H H' := fun c u h n => k1 c u h (np h n)
  have napart : ApartT cs p := by rcases hp with e | e <;> rw [e]; exact o.n1; exact o.n2
  have tb' : Tabs cs H' := fun r hr => by
    obtain ⟨ps, h1, h2⟩ := o.tbs r hr
    exact ⟨ps, k1 _ _ h1 (napart r hr), h2⟩
  have mF : Mob H (fun _ => False) := fun c z => z.elim
  refine ⟨box_kn (cs := [(p, p)]) (A := fun _ => False) o.box kn (fun z => z) (fun z => z), o.tab.gw ext, tb', ?_, ?_, o.n1, o.n2, o.nn, o.dj, fun c u h n na => ?_, o.own, o.bl, fun c h => o.old c (k2 c h), sqT_km (KM.of ext) mF o.sgn, fun q hq => ?_⟩
  · by_cases e : p = p1
    · exact t1 e
    · exact tabS_kn kn mF (fun r hr => by rw [List.mem_singleton] at hr; rw [hr]; exact e) o.l1
  · by_cases e : p = p2
    · exact t2 e
    · exact tabS_kn kn mF (fun r hr => by rw [List.mem_singleton] at hr; rw [hr]; exact e) o.l2
  · refine k1 c u (o.far c u h n na) ?_
    rcases n with n | n
    · exact np (o.far c u h (.inl n) na) n
    · rcases hp with e | e
      · exact fun z => n (p1, p1) (by simp) (by rw [z, e])
      · exact fun z => n (p2, p2) (by simp) (by rw [z, e])
  · obtain ⟨h1, h2, h3⟩ := o.kp q hq
    exact ⟨ext _ _ h1 h2, h2, h3⟩
/-- more is kept -/
theorem MS.keep (o : MS K cs B p1 p2 b l A0 H0 sg x y L tb a S H) (M : List (Addr × HO)) (h : ∀ q ∈ M, H q.1 = some q.2 ∧ (∀ ps, q.2 ≠ .tbl ps) ∧ ¬ ownT tb a q.1 ∧ q.1 ≠ b ∧ q.1 ≠ l) : MS K cs B p1 p2 b l A0 H0 sg x y (M ++ L) tb a S H :=
  ⟨o.box, o.tab, o.tbs, o.l1, o.l2, o.n1, o.n2, o.nn, o.dj, o.far, o.own, o.bl, o.old, o.sgn, fun q hq => (List.mem_append.mp hq).elim (h q) (o.kp q)⟩
end
end TG

namespace TG
open PySem PySem.Spec PyProof.Rows L2 NdefX GenW Gx Lv
/-! ### what is asked of a table, and what stands behind -/
theorem tone_go {v : V} {σ : L2.St} {H : Hp} {Q : List V → Hp → Prop} (h : Q [v] H) : tCons (tC v) tNil σ H Q := h
theorem tnil_go {σ : L2.St} {H : Hp} {Q : List V → Hp → Prop} (h : Q [] H) : tNil σ H Q := h
structure UsOk (us : List (List Nat)) (ds : List Deed) (sp : List Nat) : Prop where
  len : sp.length = us.length
  us : ∀ l ∈ us, l.length ≤ 100 ∧ ∀ n ∈ l, n < ds.length
section
variable {P : Program} {w : World} {K : PySem.W.Frag} {cs : List (Addr × Addr)} {B C CB p1 p2 b l : Addr} {A0 : Addr → Prop} {H0 : Hp} {sg : Addr} {x y : Str} {L : List (Addr × HO)} {tb : Addr} {a : TA} {H : Hp} {Q : VK}
variable {z : Str} {k h : Nat} {xs : List Str} {ds : List Deed} {sp : List Nat} {us : List (List Nat)}
theorem MS.press (o : MS K cs B p1 p2 b l A0 H0 sg x y L tb a (GS z k xs ds sp us) H) (g : GOk z k xs ds sp) (u : UsOk us ds sp) (hl : ds.length ≤ 90) (hx : xs.length ≤ 1) {v : Str} (hv : MarkOk v) (hh : sp.getD h 0 = k) (hlt : h < sp.length)
    (pg : PgOk (pgG z k (xs ++ [v]) (ds ++ [((h, v, xs.length, true) : Deed)])))
    (q : ∀ (a' : TA) (H' : Hp), MS K cs B p1 p2 b l A0 H0 sg x y L tb a' (GS z k (xs ++ [v]) (ds ++ [((h, v, xs.length, true) : Deed)]) sp (us.set h [])) H' → Q .non H') : noE (spPressT cs B C) [.ref tb, .int (h : Nat), .str v] H Q (fun _ _ _ => False) := by
  have g2 := g.more (h := h) hl hx hv
  refine ⟨tb, h, v, a, _, rfl, o.tbs, o.tab, g.tok u.len u.us, hlt, hv, ?_, fun _ a' H' kn ow t od td => q a' H' ?_, fun np => absurd ?_ np⟩
  · rw [sign_G, ord_G g.kl hh v, deed_G]
    exact g2.set (S := GS z k xs ds sp us)
  · rw [press_G g hh v] at td
    exact o.goes kn ow t od td
  · rw [sign_G, ord_G g.kl hh v, deed_G, page_G g.kl]
    exact pg
theorem MS.back (o : MS K cs B p1 p2 b l A0 H0 sg x y L tb a (GS z k xs ds sp us) H) (g : GOk z k xs ds sp) (u : UsOk us ds sp) (hlt : h < sp.length) {n : Nat} (hn : (stR ds h ds.length).getLast? = some n) (pg : PgOk (pgG z k xs (turnD ds n false)))
    (q : ∀ (a' : TA) (H' : Hp), MS K cs B p1 p2 b l A0 H0 sg x y L tb a' (GS z k xs (turnD ds n false) sp (us.set h (us.getD h [] ++ [n]))) H' → Q (.bl true) H') : noE (spTBack cs B C) [.ref tb, .int (h : Nat)] H Q (fun _ _ _ => False) := by
  have e : stR (GS z k xs ds sp us).deeds h (GS z k xs ds sp us).deeds.length = stR ds h ds.length := by
    show stR (dsN (z.length + 1) ds) h (dsN (z.length + 1) ds).length = _
    rw [stR_G, dsN_len]
  refine ⟨tb, h, a, _, rfl, o.tbs, o.tab, g.tok u.len u.us, hlt, fun m _ => ?_, fun _ => ?_, fun m hm np => absurd ?_ np⟩
  · rw [turn_G]
    exact (g.turn m false).set (S := GS z k xs ds sp us)
  · rw [back_G g, hn]
    exact fun a' H' kn ow t od td => q a' H' (o.goes kn ow t od td)
  · rw [e, hn] at hm
    cases hm
    rw [turn_G]
    have e : pageR (GS z k xs ds sp us).signs (GS z k xs ds sp us).order (dsN (z.length + 1) (turnD ds n false)) = pgG z k xs (turnD ds n false) := page_G g.kl
    rw [e]
    exact pg
theorem MS.again (o : MS K cs B p1 p2 b l A0 H0 sg x y L tb a (GS z k xs ds sp us) H) (g : GOk z k xs ds sp) (u : UsOk us ds sp) (hlt : h < sp.length) {n : Nat} (hn : (us.getD h []).getLast? = some n) (pg : PgOk (pgG z k xs (turnD ds n true)))
    (q : ∀ (a' : TA) (H' : Hp), MS K cs B p1 p2 b l A0 H0 sg x y L tb a' (GS z k xs (turnD ds n true) sp (us.set h (us.getD h []).dropLast)) H' → Q (.bl true) H') : noE (spTAgain cs B C) [.ref tb, .int (h : Nat)] H Q (fun _ _ _ => False) := by
  refine ⟨tb, h, a, _, rfl, o.tbs, o.tab, g.tok u.len u.us, hlt, fun m _ => ?_, fun _ => ?_, fun m hm np => absurd ?_ np⟩
  · rw [turn_G]
    exact (g.turn m true).set (S := GS z k xs ds sp us)
  · rw [again_G g, hn]
    exact fun a' H' kn ow t od td => q a' H' (o.goes kn ow t od td)
  · have hm : (us.getD h []).getLast? = some m := hm
    rw [hn] at hm
    cases hm
    rw [turn_G]
    have e : pageR (GS z k xs ds sp us).signs (GS z k xs ds sp us).order (dsN (z.length + 1) (turnD ds n true)) = pgG z k xs (turnD ds n true) := page_G g.kl
    rw [e]
    exact pg
theorem MS.again0 (o : MS K cs B p1 p2 b l A0 H0 sg x y L tb a (GS z k xs ds sp us) H) (g : GOk z k xs ds sp) (u : UsOk us ds sp) (hlt : h < sp.length) (hn : (us.getD h []).getLast? = none)
    (q : ∀ (a' : TA) (H' : Hp), MS K cs B p1 p2 b l A0 H0 sg x y L tb a' (GS z k xs ds sp us) H' → Q (.bl false) H') : noE (spTAgain cs B C) [.ref tb, .int (h : Nat)] H Q (fun _ _ _ => False) := by
  refine ⟨tb, h, a, _, rfl, o.tbs, o.tab, g.tok u.len u.us, hlt, fun m _ => ?_, fun _ => ?_, fun m hm np => ?_⟩
  · rw [turn_G]
    exact (g.turn m true).set (S := GS z k xs ds sp us)
  · rw [again_G g, hn]
    exact fun a' H' kn ow t od td => q a' H' (o.goes kn ow t od td)
  · have hm : (us.getD h []).getLast? = some m := hm
    rw [hn] at hm
    cases hm
theorem MS.rub {v : Str} (o : MS K cs B p1 p2 b l A0 H0 sg x y L tb a (GS z k [v] ds sp us) H) (g : GOk z k [v] ds sp) (u : UsOk us ds sp) (hl : ds.length ≤ 90) (hlt : h < sp.length) (hh : sp.getD h 0 = k) (ht : thereR 1 ds = [true]) (pg : PgOk (pgG z k [v] (ds ++ [((h, ("" : Str), 0, true) : Deed)])))
    (q : ∀ (a' : TA) (H' : Hp), MS K cs B p1 p2 b l A0 H0 sg x y L tb a' (GS z k [v] (ds ++ [((h, ("" : Str), 0, true) : Deed)]) sp (us.set h [])) H' → Q .non H') : noE (spTRub cs B CB C) [.ref tb, .int (h : Nat)] H Q (fun _ _ _ => False) := by
  have nr := near_G (x := v) (us := us) g.kl hh ht
  have ed : (GS z k [v] ds sp us).deeds ++ [((h, ("" : Str), z.length + 1 + 0, true) : Deed)] = dsN (z.length + 1) (ds ++ [((h, ("" : Str), 0, true) : Deed)]) := dsN_app (z.length + 1) ds (h, "", 0, true)
  have g2 : GOk z k [v] (ds ++ [((h, ("" : Str), 0, true) : Deed)]) sp := g.deed hl (by show 0 < 1; decide)
  refine ⟨tb, h, a, _, rfl, o.tbs, o.tab, g.tok u.len u.us, hlt, fun m hm => ?_, fun hm => ?_⟩
  · rw [nr] at hm
    cases hm
    refine ⟨?_, fun _ => ?_, fun np => absurd ?_ np⟩
    · rw [ed]
      exact g2.set (S := GS z k [v] ds sp us)
    · rw [rub_G g 0]
      exact fun a' H' kn ow t od td => q a' H' (o.goes kn ow t od td)
    · rw [ed]
      have e : pageR (GS z k [v] ds sp us).signs (GS z k [v] ds sp us).order (dsN (z.length + 1) (ds ++ [((h, ("" : Str), 0, true) : Deed)])) = pgG z k [v] (ds ++ [((h, ("" : Str), 0, true) : Deed)]) := page_G g.kl
      rw [e]
      exact pg
  · rw [nr] at hm
    cases hm
/-- a page told, and kept -/
def pageL (r : Addr) (ps : List Addr) (rows : List (List Str)) : List (Addr × HO) := (r, HO.lst (ps.map V.ref)) :: (ps.zip rows).map fun q => (q.1, HO.tup (sV q.2))
theorem pageL_row {ps : List Addr} {rows : List (List Str)} {r : Addr} {i : Nat} {q : Addr} {t : List Str} (h1 : ps[i]? = some q) (h2 : rows[i]? = some t) : (q, HO.tup (sV t)) ∈ pageL r ps rows := by
  refine List.mem_cons_of_mem _ (List.mem_map.mpr ⟨(q, t), List.mem_iff_getElem?.mpr ⟨i, ?_⟩, rfl⟩)
  exact (List.getElem?_zip_eq_some (z := (q, t))).mpr ⟨h1, h2⟩
theorem rows_G (hk : k ≤ z.length) : rowsG (GS z k xs ds sp us) = pgG z k xs ds := by
  show rowsT (textR (sgG z xs) (thoseR (ordG (z.length + 1) k xs.length) (thereR (z.length + 1 + xs.length) (dsN (z.length + 1) ds)))) = _
  rw [there_G, text_G hk]
theorem MS.page {E : XK} (o : MS K cs B p1 p2 b l A0 H0 sg x y L tb a (GS z k xs ds sp us) H) (g : GOk z k xs ds sp) (u : UsOk us ds sp)
    (q : ∀ (r : Addr) (ps : List Addr) (H' : Hp), ps.length = (pgG z k xs ds).length → MS K cs B p1 p2 b l A0 H0 sg x y (pageL r ps (pgG z k xs ds) ++ L) tb a (GS z k xs ds sp us) H' → Q (.ref r) H') : spTPage cs B [.ref tb] H Q E := by
  refine ⟨tb, a, _, rfl, o.tbs, o.tab, g.tok u.len u.us, fun r ps H' e nr hr hps => ?_⟩
  have er := rows_G (ds := ds) (xs := xs) (sp := sp) (us := us) g.kl
  have hps : RowsAt ps (pgG z k xs ds) H' := by
    have e2 : RowsAt ps (rowsG (GS z k xs ds sp us)) H' := hps
    rw [er] at e2
    exact e2
  refine q r ps H' hps.len ((o.ex e).keep _ fun t ht => ?_)
  have o' := o.ex e
  rcases List.mem_cons.mp ht with rfl | ht
  · refine ⟨hr, (fun ps z => nomatch z), fun z => ?_, fun z => ?_, fun z => ?_⟩
    · rcases o.tab.mob _ z with ⟨_, w⟩ | ⟨_, _, _, w⟩ <;> rw [nr] at w <;> cases w
    · rcases box_mobT o.box r (.inl z) with ⟨_, w⟩ | ⟨_, _, _, w⟩ <;> rw [nr] at w <;> cases w
    · rcases box_mobT o.box r (.inr z) with ⟨_, w⟩ | ⟨_, _, _, w⟩ <;> rw [nr] at w <;> cases w
  · obtain ⟨⟨c, row⟩, hm, rfl⟩ := List.mem_map.mp ht
    obtain ⟨i, hi⟩ := List.mem_iff_getElem?.mp hm
    obtain ⟨h1, h2⟩ := List.getElem?_zip_eq_some.mp hi
    have hc := hps.row i c row h1 h2
    refine ⟨hc, (fun ps z => nomatch z), fun z => ?_, fun z => ?_, fun z => ?_⟩
    · rcases o'.tab.mob _ z with ⟨_, w⟩ | ⟨_, _, _, w⟩ <;> rw [hc] at w <;> cases w
    · rcases box_mobT o'.box c (.inl z) with ⟨_, w⟩ | ⟨_, _, _, w⟩ <;> rw [hc] at w <;> cases w
    · rcases box_mobT o'.box c (.inr z) with ⟨_, w⟩ | ⟨_, _, _, w⟩ <;> rw [hc] at w <;> cases w
theorem page_dp {r : Addr} {ps : List Addr} {rows : List (List Str)} (hl : ps.length = rows.length) (h : ∀ q ∈ pageL r ps rows, H q.1 = some q.2) : Dp K H (.ref r) (.list (rowsD rows)) :=
  .lst (SqL.of (h _ List.mem_cons_self)) (dp_rows hl fun i q t h1 h2 => SqT.of (h _ (pageL_row h1 h2)))
/-- two pages alike -/
theorem page_eq {r1 r2 : Addr} {ps1 ps2 : List Addr} {rows : List (List Str)} {Z : VK} (g : PgOk rows) (l1 : ps1.length = rows.length) (l2 : ps2.length = rows.length) (h1 : ∀ q ∈ pageL r1 ps1 rows, H q.1 = some q.2) (h2 : ∀ q ∈ pageL r2 ps2 rows, H q.1 = some q.2) (q : Z (.bl true) H) : rEqD K (.ref r1) (.ref r2) H Z := by
  have s := shaped_rows g
  have e : PyData.eqv (.list (rowsD rows)) (.list (rowsD rows)) = true := SeqAt.eqv_refl _ (can_rows g)
  exact ⟨_, _, page_dp l1 h1, page_dp l2 h2, s, s, by rw [e]; exact q⟩
theorem page_ne {r1 r2 : Addr} {ps1 ps2 : List Addr} {rows : List (List Str)} {Z : VK} (g : PgOk rows) (l1 : ps1.length = rows.length) (l2 : ps2.length = rows.length) (h1 : ∀ q ∈ pageL r1 ps1 rows, H q.1 = some q.2) (h2 : ∀ q ∈ pageL r2 ps2 rows, H q.1 = some q.2) (q : Z (.bl false) H) : rNeD K (.ref r1) (.ref r2) H Z := by
  have s := shaped_rows g
  have e : PyData.eqv (.list (rowsD rows)) (.list (rowsD rows)) = true := SeqAt.eqv_refl _ (can_rows g)
  exact ⟨_, _, page_dp l1 h1, page_dp l2 h2, s, s, by rw [e]; exact q⟩
end
end TG

namespace TG
open PySem PySem.Spec PyProof.Rows L2 NdefX GenW Gx Lv
/-! ### refused, as often as it is tried -/
section
variable {P : Program} {w : World} {K : PySem.W.Frag} {mg : Str → Option Value} {base : Heap} {cs : List (Addr × Addr)} {B C p1 p2 b l : Addr} {A0 : Addr → Prop} {H0 : Hp} {sg : Addr} {x y : Str} {L : List (Addr × HO)} {tb : Addr} {a : TA} {S : TSt} {H : Hp}
theorem box_lists {b l : Addr} {H H' : Hp} (h : BoxAt H b l) (f : ∀ {c : Addr} {xs : List V}, H c = some (.lst xs) → H' c = some (.lst xs)) : BoxAt H' b l := by
  obtain ⟨ns, s1, e1, e2, e3⟩ := h
  exact ⟨ns, s1, f e1, f e2, e3⟩
theorem MS.refused (o : MS K cs B p1 p2 b l A0 H0 sg x y L tb a S H) {cells : List (Str × Addr)} {N : List Str} {σ : L2.St} {cl : List (Addr × Obj)} {f c' : Addr} {lam : LamT} {lc : List (Str × Addr)} {qn : Str} {sp : Sp} {Q : VK} {E : XK} (sc : NScope capT [] capT lam.2.2)
    (T : ToldC cells N capT σ cl) (un : ∀ c o, cl.lookup c = some o → H c = none) (hF : lc = cloFrom cells lam.2.2.names []) (hN : N[1]? = some ("_law_table" : Str)) (hσ : σ[1]? = some (some (.ref tb)))
    (hf : H f = some (FnL f ⟨"<lambda>", qn, lam.1, [], lam.2.2, lc, c'⟩ lam.2.1)) (hc : H c' = some (LamX.CodeO c' qn)) (LK : LOkX P w K mg base 14 f ⟨"<lambda>", qn, lam.1, [], lam.2.2, lc, c'⟩ lam.2.1 (spLamG sp ⟨"<lambda>", qn, lam.1, [], lam.2.2, lc, c'⟩))
    (hO : TOk S) (h2 : 2 ≤ S.spots.length) (hpg : PgOk (rowsG S)) (hds : ∀ d ∈ S.deeds, MarkOk d.2.1 ∨ d.2.1 = "")
    (hsp : ∀ (K1 : Hp), Tabs cs K1 → TabD B K1 tb a S → ∀ (Z : VK) (E' : XK), (∀ H', Ex cs K1 H' → E' (.ref C) none H') → sp [.ref tb, .int ((0 : Nat) : Int)] K1 Z E')
    (q : ∀ H', ((∀ c o, cl.lookup c = some o → H' c = some (cellF o)) → MS K cs B p1 p2 b l A0 H0 sg x y L tb a S (delC H' cl)) → Q (.bl true) H') :
    spRefused P w K mg base C 14 cs B [.ref b, .ref tb, .ref f] (addC H cl) Q E := by
  have sm : Same H (addC H cl) := fun c u h => add_at un h
  have nb : ∀ c u, cl.lookup c = some u → ¬ (c = b ∨ c = l) := fun c u q z => by
    rcases box_mobT o.box c z with ⟨_, e⟩ | ⟨_, _, _, e⟩ <;> rw [un c u q] at e <;> cases e
  refine ⟨b, l, tb, f, a, S, _, _, _, rfl, tabs_add un o.tbs, box_lists o.box (fun h => sm _ _ h), o.tab.same sm, hO, h2, hpg, hds, o.dj, sm _ _ hf, sm _ _ hc, LK, fun H2 kn t2 d2 Z E2 hE => ?_, fun H2 kn t2 bx2 od2 => q H2 fun told => ?_⟩
  · have told2 : ∀ c o, cl.lookup c = some o → H2 c = some (cellF o) := fun c o q => kn c _ (addC_in q) (.inl fun ps z => by unfold cellF at z; cases z) (nb c o q)
    refine ⟨rfl, tb, cl, caught_of T hF (fun y hy => sc.free (y, .free) hy rfl) (fun y hy => PySem.mem_of_lookup (sc.frk y hy)) (fun y hy => hy) rfl told2 (fun i y v q1 q2 => ?_), hsp _ (tabs_del told2 t2) (d2.del told2) _ _ fun H' x hu => hE _ (ex_add told2 x hu)⟩
    match i, q1, q2 with
    | 0, q1, q2 =>
      cases q1
      cases q2
      exact ⟨1, hN, hσ⟩
    | i + 1, q1, _ => simp at q1
  · refine o.boxed (fun c u h n m => ?_) (tabs_del told t2) (box_lists bx2 fun h => del_keep told h lst_ncell) fun c h => ?_
    · rw [delC_out (del_at un h)]
      exact kn c u (sm _ _ h) n m
    · cases r : cl.lookup c with
      | some u => exact un c u r
      | none =>
        rw [delC_out r] at h
        exact (add_none (od2 c h)).2
end
/-! ### _law_pressed_again -/
section
variable {P : Program} {w : World} {K : PySem.W.Frag} {mg : Str → Option Value} {base : Heap} {cs : List (Addr × Addr)} {B C p1 p2 : Addr}
def spTried (K : PySem.W.Frag) (cs : List (Addr × Addr)) (B p1 p2 : Addr) : Sp := fun vs H Q _ => ∃ (b l tb sg : Addr) (x y z : Str) (a : TA) (k m : Nat), vs = [.ref b, .ref tb, .ref sg] ∧ RoomOk z k x y ∧ m ≤ 2 ∧
  MS K cs B p1 p2 b l (fun c => ownT tb a c ∨ c = b ∨ c = l) H sg x y [] tb a (GS z k [] [] (spG k m) (usG [] [] m)) H ∧
  ∀ H', KN ((p1, p1) :: (p2, p2) :: cs) (fun c => ownT tb a c ∨ c = b ∨ c = l) H H' → BoxAt H' b l → Tabs cs H' → LamX.TabS H' p1 qA → LamX.TabS H' p2 qB → (∀ c, H' c = none → H c = none) → Q (.bl true) H'
abbrev nmPA : List Str := ["_law_box", "_law_table", "_law_signs", "_law_full"]
theorem sc_pa : FnScope nmPA ["_law_box", "_law_table", "_law_signs"] (defScope s_pressed_again) := ⟨rfl, rfl, rfl, by decide +kernel, rfl, by decide +kernel, by decide +kernel⟩
theorem key_pa : ∀ y ∈ lamA.2.2.names, y.2 = .free → (defScope s_pressed_again).names.lookup y.1 = some .cell := by decide +kernel
theorem key_pc : ∀ y ∈ capT, (defScope s_pressed_again).names.lookup y = some .cell := by decide +kernel
theorem ok_pa {f c g3 gp gb gg gw : Addr} {fd fd3 fdp fdb fdg fdw : FuncData} (T : Txt mg) (X : TabC K B) (ne : ApartT cs p1) (F : Fun K "_law_pressed_again" "_law_pressed_again" s_pressed_again f fd) (hcode : fd.code = .ref c) (TB : LamX.TabB base mg c p1)
    (G3 : FnOk P w K mg base CX0 16 g3 fd3 ["_law_box", "_law_table", "_law_work"] (spRefused P w K mg base C 14 cs B)) (k3 : PySem.W.keepIn K (.ref g3) = true) (b3 : Binds K fd3 ["_law_box", "_law_table", "_law_work"] []) (m3 : mg "_law_refused" = some (.ref g3))
    (Mw : Meth K B "press" gw) (Gw : FnOk P w K mg base CX0 12 gw fdw ["self", "hand", "sign"] (noE (spPressT cs B C))) (bw : Binds K fdw ["self", "hand", "sign"] [])
    (Mp : Meth K B "page" gp) (Gp : FnOk P w K mg base CX0 3 gp fdp ["self"] (spTPage cs B)) (bp : Binds K fdp ["self"] [])
    (Mb : Meth K B "back" gb) (Gb : FnOk P w K mg base CX0 13 gb fdb ["self", "hand"] (noE (spTBack cs B C))) (bb : Binds K fdb ["self", "hand"] [])
    (Mg : Meth K B "again" gg) (Gg : FnOk P w K mg base CX0 13 gg fdg ["self", "hand"] (noE (spTAgain cs B C))) (Gx : FnOk P w K mg base (L2.CX P w) 13 gg fdg ["self", "hand"] (spTAgain cs B C)) (bg : Binds K fdg ["self", "hand"] []) :
    FnOk P w K mg base CX0 17 f fd ["_law_box", "_law_table", "_law_signs"] (spTried K cs B p1 p2) := by
  refine fun_okT F hcode sc_pa (fun vs H Q E h => ?_) (fun A outer s H vs Q E hr h => ?_)
  · obtain ⟨b, l, tb, sg, x, y, z, a, k, m, rfl, _⟩ := h
    rfl
  · obtain ⟨b, l, tb, sg, x, y, z, a, k, m, rfl, ro, hm, o, kk⟩ := h
    have nd := sc_pa.nd
    have hu := hr.units
    have r3 : Room 3 _ := hr.mono (by decide)
    have r12 : Room 12 _ := hr.mono (by decide)
    have r13 : Room 13 _ := hr.mono (by decide)
    refine ⟨_, pss_cons (ps_expr (pe_meth (pv 1) X.cls Mw Gw r12 bw .nil pass0 (pa_cons pe_int (pa_cons (pe_ix ix_tup (pv 2) pe_int (fun _ _ => rfl)) pa_nil))))
      (pss_cons (ps_set (i := 3) nd rfl (.inl rfl) (pe_meth0 (pv 1) X.cls Mp Gp r3 bp .nil pass0))
      (pss_cons (ps_if (PW.pt (pw_or (pt_cmpR op_notBl (pe_meth (pv 1) X.cls Mb Gb r13 bb .nil pass0 (pa_cons pe_int pa_nil)) pe_bl (nomark _)) (pw_or1 (pt_cmpR op_notN (pe_meth (pv 1) X.cls Mw Gw r12 bw .nil pass0 (pa_cons pe_int (pa_cons (pe_ix ix_tup (pv 2) pe_int (fun _ _ => rfl)) pa_nil))) pe_non (nomark _))))) (pss_one (ps_ret pe_bl)) pss_nil)
      (pss_cons (ps_if (PW.pt (pw_or (pt_not (pt_val (pe_callC (names := capT) G3 hr (by rfl) m3 k3 b3 (fun _ _ => rfl) key_pc (pa_cons (pv 0) (pa_cons (pv 1) (pa_cons (pe_lamC TB rfl rfl fun y hy e => .inl (key_pa y hy e)) pa_nil)))))) (pw_or1 (pt_cmpR op_notBl (pe_meth (pv 1) X.cls Mb Gb r13 bb .nil pass0 (pa_cons pe_int pa_nil)) pe_bl (nomark _))))) (pss_one (ps_ret pe_bl)) pss_nil)
      (pss_one (ps_ret (pe_and (pe_cmpR op_isBl (pe_meth (pv 1) X.cls Mg Gg r13 bg .nil pass0 (pa_cons pe_int pa_nil)) pe_bl (nomark _)) (pe_and (pe_cmpR (op_eqD hu) (pe_meth0 (pv 1) X.cls Mp Gp r3 bp .nil pass0) (pv 3) (nomark _)) (pe_one (pe_cmpR op_isBl (pe_meth (pv 1) X.cls Mg Gg r13 bg .nil pass0 (pa_cons pe_int pa_nil)) pe_bl (nomark _)))))))))), ?_⟩
    have mm : 2 ≤ (spG k m).length := by unfold spG; show 2 ≤ (List.replicate m 0).length + 1 + 1; omega
    have us2 : ∀ (u0 u1 : List Nat) (ds : List Deed), u0.length ≤ 100 → u1.length ≤ 100 → (∀ n ∈ u0, n < ds.length) → (∀ n ∈ u1, n < ds.length) → UsOk (usG u0 u1 m) ds (spG k m) := fun u0 u1 ds c0 c1 c2 c3 => by
      refine ⟨by unfold usG spG; show (List.replicate m 0).length + 1 + 1 = (List.replicate m []).length + 1 + 1; rw [List.length_replicate, List.length_replicate], fun l hl => ?_⟩
      rcases List.mem_cons.mp hl with e | e
      · rw [e]; exact ⟨c0, c2⟩
      rcases List.mem_cons.mp e with e | e
      · rw [e]; exact ⟨c1, c3⟩
      · rw [(List.mem_replicate.mp e).2]
        exact ⟨Nat.zero_le _, fun n hn => by cases hn⟩
    have mx := ro.mx
    have my := ro.my
    have g0 := ro.ok hm
    have q1 : ∀ bx, pgG z k [x] [((0, x, 0, bx) : Deed)] = rowsT (tx z k (if bx then [x] else [])) := fun bx => by
      show rowsT (tx z k (presR [x] (thereR 1 [((0, x, 0, bx) : Deed)]))) = _
      rw [th1 mx my, pr1]
    have q2 : ∀ bx by_, pgG z k [x, y] [((0, x, 0, bx) : Deed), (1, y, 1, by_)] = rowsT (tx z k ((if bx then [x] else []) ++ if by_ then [y] else [])) := fun bx by_ => by
      show rowsT (tx z k (presR [x, y] (thereR 2 [((0, x, 0, bx) : Deed), (1, y, 1, by_)]))) = _
      rw [th3 mx my, pr2]
    have g1 : ∀ bx, GOk z k [x] [((0, x, 0, bx) : Deed)] (spG k m) := fun bx => (g0.more (h := 0) (by decide) (by decide) mx).turn 0 bx
    have g2 : ∀ bx by_, GOk z k [x, y] [((0, x, 0, bx) : Deed), (1, y, 1, by_)] (spG k m) := fun bx by_ => ((g1 bx).more (h := 1) (by show 1 ≤ 90; decide) (by show 1 ≤ 1; decide) my).turn 1 by_
    have nu : ∀ n ∈ ([] : List Nat), n < 1 := fun n hn => by cases hn
    -- pressed
    refine ⟨_, rfl, tb, a.dx, _, rfl, o.tab.ob, rfl, _, rfl, sg, _, 0, .str x, rfl, rfl, o.sgn, atI_nat (j := 0) rfl, o.press (h := 0) g0 (us2 [] [] [] (by decide) (by decide) (fun n hn => by cases hn) (fun n hn => by cases hn)) (by decide) (by decide) mx rfl (by omega) (by rw [show pgG z k ([] ++ [x]) ([] ++ [((0, x, ([] : List Str).length, true) : Deed)]) = _ from q1 true]; exact ro.px) fun a1 H1 o1 => ?_⟩
    replace o1 : MS K cs B p1 p2 b l _ H sg x y [] tb a1 (GS z k [x] [((0, x, 0, true) : Deed)] (spG k m) (usG [] [] m)) H1 := o1
    -- the page
    refine ⟨_, rfl, tb, a1.dx, _, rfl, o1.tab.ob, rfl, tnil_go (o1.page (g1 true) (us2 [] [] _ (by decide) (by decide) (fun n hn => by cases hn) (fun n hn => by cases hn)) fun r ps H2 hl o2 => ?_)⟩
    -- back, and the other one's
    refine ⟨_, rfl, tb, a1.dx, _, rfl, o2.tab.ob, rfl, tone_go (o2.back (h := 0) (n := 0) (g1 true) (us2 [] [] _ (by decide) (by decide) (fun n hn => by cases hn) (fun n hn => by cases hn)) (by omega) rfl (by rw [show pgG z k [x] (turnD [((0, x, 0, true) : Deed)] 0 false) = _ from q1 false]; exact ro.p0) fun a3 H3 o3 => ⟨true, true, rfl, rfl, false, rfl, iteF ?_⟩)⟩
    replace o3 : MS K cs B p1 p2 b l _ H sg x y _ tb a3 (GS z k [x] [((0, x, 0, false) : Deed)] (spG k m) (usG [0] [] m)) H3 := o3
    have u3 : UsOk (usG [0] [] m) [((0, x, 0, false) : Deed)] (spG k m) := us2 [0] [] _ (by decide) (by decide) (fun n hn => by rw [List.mem_singleton] at hn; rw [hn]; show 0 < 1; decide) (fun n hn => by cases hn)
    refine ⟨_, rfl, tb, a3.dx, _, rfl, o3.tab.ob, rfl, _, rfl, sg, _, 1, .str y, rfl, rfl, o3.sgn, atI_nat (j := 1) rfl, o3.press (h := 1) (g1 false) u3 (by show 1 ≤ 90; decide) (by show 1 ≤ 1; decide) my rfl (by omega) (by rw [show pgG z k ([x] ++ [y]) ([((0, x, 0, false) : Deed)] ++ [((1, y, [x].length, true) : Deed)]) = _ from q2 false true]; exact ro.py) fun a4 H4 o4 => ⟨rfl, false, rfl, iteF ?_⟩⟩
    replace o4 : MS K cs B p1 p2 b l _ H sg x y _ tb a4 (GS z k [x, y] [((0, x, 0, false) : Deed), (1, y, 1, true)] (spG k m) (usG [0] [] m)) H4 := o4
    have u4 : ∀ by_, UsOk (usG [0] [] m) [((0, x, 0, false) : Deed), (1, y, 1, by_)] (spG k m) := fun by_ => us2 [0] [] _ (by decide) (by decide) (fun n hn => by rw [List.mem_singleton] at hn; rw [hn]; show 0 < 2; decide) (fun n hn => by cases hn)
    have tk4 := (g2 false true).tok (u4 true).len (u4 true).us
    -- refused
    refine ⟨_, rfl, _, rfl, o4.l1, fun f1 cc H5 e1 e2 t1 nf hf hc cl Tc un => ?_⟩
    refine (o4.lamC (.inl rfl) e1 e2 (fun _ => t1) (fun e => absurd e o4.nn)).refused sc_la Tc un rfl rfl rfl hf hc (lok_a X Mg Gx bg) tk4 mm (by rw [rows_G ro.kl, q2 false true]; exact ro.py) (fun d hd => ?_) (fun K1 t d Z E' hE => ?_) fun H6' o6 told => ⟨true, rfl, iteF ?_⟩
    · rcases List.mem_cons.mp hd with e | e
      · rw [e]; exact .inl mx
      rcases List.mem_cons.mp e with e | e
      · rw [e]; exact .inl my
      · cases e
    · refine ⟨tb, 0, a4, _, rfl, t, d, tk4, by show 0 < (spG k m).length; omega, fun n _ => ?_, fun c => absurd (c 0 rfl) ?_, fun n _ _ H' x => hE H' x⟩
      · rw [turn_G]
        exact ((g2 false true).turn n true).set (S := GS z k [x, y] [((0, x, 0, false) : Deed), (1, y, 1, true)] (spG k m) (usG [0] [] m))
      · rw [turn_G]
        have e : pageR (GS z k [x, y] [((0, x, 0, false) : Deed), (1, y, 1, true)] (spG k m) (usG [0] [] m)).signs (GS z k [x, y] [((0, x, 0, false) : Deed), (1, y, 1, true)] (spG k m) (usG [0] [] m)).order (dsN (z.length + 1) (turnD [((0, x, 0, false) : Deed), (1, y, 1, true)] 0 true)) = pgG z k [x, y] [((0, x, 0, true) : Deed), (1, y, 1, true)] := page_G ro.kl
        rw [e, q2 true true]
        exact ro.pxy
    replace o6 := o6 told
    generalize delC H6' cl = H6 at o6 ⊢
    -- the other one's taken back
    refine ⟨_, rfl, tb, a4.dx, _, rfl, o6.tab.ob, rfl, tone_go (o6.back (h := 1) (n := 1) (g2 false true) (u4 true) (by omega) rfl (by rw [show pgG z k [x, y] (turnD [((0, x, 0, false) : Deed), (1, y, 1, true)] 1 false) = _ from q2 false false]; exact ro.p0) fun a7 H7 o7 => ⟨true, true, rfl, rfl, false, rfl, iteF ?_⟩)⟩
    replace o7 : MS K cs B p1 p2 b l _ H sg x y _ tb a7 (GS z k [x, y] [((0, x, 0, false) : Deed), (1, y, 1, false)] (spG k m) (usG [0] [1] m)) H7 := o7
    have u7 : UsOk (usG [0] [1] m) [((0, x, 0, false) : Deed), (1, y, 1, false)] (spG k m) := us2 [0] [1] _ (by decide) (by decide) (fun n hn => by rw [List.mem_singleton] at hn; rw [hn]; show 0 < 2; decide) (fun n hn => by rw [List.mem_singleton] at hn; rw [hn]; show 1 < 2; decide)
    -- let stand again
    refine ⟨_, rfl, tb, a7.dx, _, rfl, o7.tab.ob, rfl, tone_go (o7.again (h := 0) (n := 0) (g2 false false) u7 (by omega) rfl (by rw [show pgG z k [x, y] (turnD [((0, x, 0, false) : Deed), (1, y, 1, false)] 0 true) = _ from q2 true false]; exact ro.px) fun a8 H8 o8 => ⟨true, true, rfl, rfl, true, rfl, iteT ?_⟩)⟩
    replace o8 : MS K cs B p1 p2 b l _ H sg x y _ tb a8 (GS z k [x, y] [((0, x, 0, true) : Deed), (1, y, 1, false)] (spG k m) (usG [] [1] m)) H8 := o8
    have u8 : UsOk (usG [] [1] m) [((0, x, 0, true) : Deed), (1, y, 1, false)] (spG k m) := us2 [] [1] _ (by decide) (by decide) (fun n hn => by cases hn) (fun n hn => by rw [List.mem_singleton] at hn; rw [hn]; show 1 < 2; decide)
    refine ⟨_, rfl, tb, a8.dx, _, rfl, o8.tab.ob, rfl, tnil_go (o8.page (g2 true false) u8 fun r2 ps2 H9 hl2 o9 => ?_)⟩
    have p1' : pgG z k [x] [((0, x, 0, true) : Deed)] = rowsT (tx z k [x]) := q1 true
    have p2' : pgG z k [x, y] [((0, x, 0, true) : Deed), (1, y, 1, false)] = rowsT (tx z k [x]) := q2 true false
    rw [p1'] at hl o9
    rw [p2'] at hl2 o9
    refine ⟨_, rfl, page_eq ro.px hl2 hl (fun q hq => (o9.kp q (List.mem_append_left _ hq)).1) (fun q hq => (o9.kp q (List.mem_append_right _ (List.mem_append_left _ hq))).1) ⟨true, rfl, iteT ?_⟩⟩
    refine ⟨_, rfl, tb, a8.dx, _, rfl, o9.tab.ob, rfl, tone_go (o9.again0 (h := 0) (g2 true false) u8 (by omega) rfl fun a9 H10 o10 => ⟨false, false, rfl, rfl, ?_⟩)⟩
    exact kk H10 o10.far o10.box o10.tbs o10.l1 o10.l2 o10.old
end
end TG

namespace TG
open PySem PySem.Spec PyProof.Rows L2 NdefX GenW Gx Lv
/-! ### _law_rubbed_back -/
section
variable {P : Program} {w : World} {K : PySem.W.Frag} {mg : Str → Option Value} {base : Heap} {cs : List (Addr × Addr)} {B C CB p1 p2 : Addr}
abbrev nmRB : List Str := ["_law_box", "_law_table", "_law_signs", "_law_first", "_law_full"]
theorem sc_rb : FnScope nmRB ["_law_box", "_law_table", "_law_signs"] (defScope s_rubbed_back) := ⟨rfl, rfl, rfl, by decide +kernel, rfl, by decide +kernel, by decide +kernel⟩
theorem key_rb : ∀ y ∈ lamB.2.2.names, y.2 = .free → (defScope s_rubbed_back).names.lookup y.1 = some .cell := by decide +kernel
theorem key_rc : ∀ y ∈ capT, (defScope s_rubbed_back).names.lookup y = some .cell := by decide +kernel
theorem ok_rb {f c g3 gp gb gg gw gu : Addr} {fd fd3 fdp fdb fdg fdw fdu : FuncData} (T : Txt mg) (X : TabC K B) (ne : ApartT cs p2) (F : Fun K "_law_rubbed_back" "_law_rubbed_back" s_rubbed_back f fd) (hcode : fd.code = .ref c) (TB : LamX.TabB base mg c p2)
    (G3 : FnOk P w K mg base CX0 16 g3 fd3 ["_law_box", "_law_table", "_law_work"] (spRefused P w K mg base C 14 cs B)) (k3 : PySem.W.keepIn K (.ref g3) = true) (b3 : Binds K fd3 ["_law_box", "_law_table", "_law_work"] []) (m3 : mg "_law_refused" = some (.ref g3))
    (Mw : Meth K B "press" gw) (Gw : FnOk P w K mg base CX0 12 gw fdw ["self", "hand", "sign"] (noE (spPressT cs B C))) (bw : Binds K fdw ["self", "hand", "sign"] [])
    (Mp : Meth K B "page" gp) (Gp : FnOk P w K mg base CX0 3 gp fdp ["self"] (spTPage cs B)) (bp : Binds K fdp ["self"] [])
    (Mb : Meth K B "back" gb) (Gb : FnOk P w K mg base CX0 13 gb fdb ["self", "hand"] (noE (spTBack cs B C))) (Gx : FnOk P w K mg base (L2.CX P w) 13 gb fdb ["self", "hand"] (spTBack cs B C)) (bb : Binds K fdb ["self", "hand"] [])
    (Mg : Meth K B "again" gg) (Gg : FnOk P w K mg base CX0 13 gg fdg ["self", "hand"] (noE (spTAgain cs B C))) (bg : Binds K fdg ["self", "hand"] [])
    (Mu : Meth K B "rub" gu) (Gu : FnOk P w K mg base CX0 12 gu fdu ["self", "hand"] (noE (spTRub cs B CB C))) (bu : Binds K fdu ["self", "hand"] []) :
    FnOk P w K mg base CX0 17 f fd ["_law_box", "_law_table", "_law_signs"] (spTried K cs B p1 p2) := by
  refine fun_okT F hcode sc_rb (fun vs H Q E h => ?_) (fun A outer s H vs Q E hr h => ?_)
  · obtain ⟨b, l, tb, sg, x, y, z, a, k, m, rfl, _⟩ := h
    rfl
  · obtain ⟨b, l, tb, sg, x, y, z, a, k, m, rfl, ro, hm, o, kk⟩ := h
    have nd := sc_rb.nd
    have hu := hr.units
    have r3 : Room 3 _ := hr.mono (by decide)
    have r12 : Room 12 _ := hr.mono (by decide)
    have r13 : Room 13 _ := hr.mono (by decide)
    refine ⟨_, pss_cons (ps_set (i := 3) nd rfl (.inl rfl) (pe_meth0 (pv 1) X.cls Mp Gp r3 bp .nil pass0))
      (pss_cons (ps_expr (pe_meth (pv 1) X.cls Mw Gw r12 bw .nil pass0 (pa_cons pe_int (pa_cons (pe_ix ix_tup (pv 2) pe_int (fun _ _ => rfl)) pa_nil))))
      (pss_cons (ps_set (i := 4) nd rfl (.inl rfl) (pe_meth0 (pv 1) X.cls Mp Gp r3 bp .nil pass0))
      (pss_cons (ps_expr (pe_meth (pv 1) X.cls Mu Gu r12 bu .nil pass0 (pa_cons pe_int pa_nil)))
      (pss_cons (ps_if (PW.pt (pw_or (pt_cmpR (op_neD hu) (pe_meth0 (pv 1) X.cls Mp Gp r3 bp .nil pass0) (pv 3) (nomark _)) (pw_or1 (pt_cmpR op_notN (pe_meth (pv 1) X.cls Mw Gw r12 bw .nil pass0 (pa_cons pe_int (pa_cons (pe_ix ix_tup (pv 2) pe_int (fun _ _ => rfl)) pa_nil))) pe_non (nomark _))))) (pss_one (ps_ret pe_bl)) pss_nil)
      (pss_cons (ps_if (PW.pt (pw_or (pt_not (pt_val (pe_callC (names := capT) G3 hr (by rfl) m3 k3 b3 (fun _ _ => rfl) key_rc (pa_cons (pv 0) (pa_cons (pv 1) (pa_cons (pe_lamC TB rfl rfl fun y hy e => .inl (key_rb y hy e)) pa_nil)))))) (pw_or1 (pt_cmpR op_notBl (pe_meth (pv 1) X.cls Mb Gb r13 bb .nil pass0 (pa_cons pe_int pa_nil)) pe_bl (nomark _))))) (pss_one (ps_ret pe_bl)) pss_nil)
      (pss_cons (ps_if (PW.pt (pw_or (pt_cmpR op_notBl (pe_meth (pv 1) X.cls Mb Gb r13 bb .nil pass0 (pa_cons pe_int pa_nil)) pe_bl (nomark _)) (pw_or (pt_cmpR (op_neD hu) (pe_meth0 (pv 1) X.cls Mp Gp r3 bp .nil pass0) (pv 4) (nomark _)) (pw_or1 (pt_cmpR op_notBl (pe_meth (pv 1) X.cls Mg Gg r13 bg .nil pass0 (pa_cons pe_int pa_nil)) pe_bl (nomark _)))))) (pss_one (ps_ret pe_bl)) pss_nil)
      (pss_one (ps_ret (pe_and (pe_cmpR (op_eqD hu) (pe_meth0 (pv 1) X.cls Mp Gp r3 bp .nil pass0) (pv 3) (nomark _)) (pe_and (pe_cmpR op_isBl (pe_meth (pv 1) X.cls Mb Gb r13 bb .nil pass0 (pa_cons pe_int pa_nil)) pe_bl (nomark _)) (pe_and (pe_cmpR op_isBl (pe_meth (pv 1) X.cls Mb Gb r13 bb .nil pass0 (pa_cons pe_int pa_nil)) pe_bl (nomark _)) (pe_one (pe_cmpR (op_eqD hu) (pe_meth0 (pv 1) X.cls Mp Gp r3 bp .nil pass0) (pv 3) (nomark _)))))))))))))), ?_⟩
    have mm : 2 ≤ (spG k m).length := by unfold spG; show 2 ≤ (List.replicate m 0).length + 1 + 1; omega
    have us2 : ∀ (u0 u1 : List Nat) (ds : List Deed), u0.length ≤ 100 → u1.length ≤ 100 → (∀ n ∈ u0, n < ds.length) → (∀ n ∈ u1, n < ds.length) → UsOk (usG u0 u1 m) ds (spG k m) := fun u0 u1 ds c0 c1 c2 c3 => by
      refine ⟨by unfold usG spG; show (List.replicate m 0).length + 1 + 1 = (List.replicate m []).length + 1 + 1; rw [List.length_replicate, List.length_replicate], fun l hl => ?_⟩
      rcases List.mem_cons.mp hl with e | e
      · rw [e]; exact ⟨c0, c2⟩
      rcases List.mem_cons.mp e with e | e
      · rw [e]; exact ⟨c1, c3⟩
      · rw [(List.mem_replicate.mp e).2]
        exact ⟨Nat.zero_le _, fun n hn => by cases hn⟩
    have mx := ro.mx
    have my := ro.my
    have g0 := ro.ok hm
    have q1 : ∀ bx, pgG z k [x] [((0, x, 0, bx) : Deed)] = rowsT (tx z k (if bx then [x] else [])) := fun bx => by
      show rowsT (tx z k (presR [x] (thereR 1 [((0, x, 0, bx) : Deed)]))) = _
      rw [th1 mx my, pr1]
    have q2 : ∀ bx by_, pgG z k [x, y] [((0, x, 0, bx) : Deed), (1, y, 1, by_)] = rowsT (tx z k ((if bx then [x] else []) ++ if by_ then [y] else [])) := fun bx by_ => by
      show rowsT (tx z k (presR [x, y] (thereR 2 [((0, x, 0, bx) : Deed), (1, y, 1, by_)]))) = _
      rw [th3 mx my, pr2]
    have g1 : ∀ bx, GOk z k [x] [((0, x, 0, bx) : Deed)] (spG k m) := fun bx => (g0.more (h := 0) (by decide) (by decide) mx).turn 0 bx
    have g2 : ∀ bx by_, GOk z k [x, y] [((0, x, 0, bx) : Deed), (1, y, 1, by_)] (spG k m) := fun bx by_ => ((g1 bx).more (h := 1) (by show 1 ≤ 90; decide) (by show 1 ≤ 1; decide) my).turn 1 by_
    have e00 : pgG z k [] [] = rowsT (tx z k []) := rfl
    have q3 : ∀ b c, pgG z k [x] [((0, x, 0, b) : Deed), (0, "", 0, c)] = rowsT (tx z k (if (b && !c) = true then [x] else [])) := fun b c => by
      show rowsT (tx z k (presR [x] (thereR 1 [((0, x, 0, b) : Deed), (0, "", 0, c)]))) = _
      rw [th2 mx my, pr1]
    have q4 : ∀ b c d, pgG z k [x, y] [((0, x, 0, b) : Deed), (0, "", 0, c), (1, y, 1, d)] = rowsT (tx z k ((if (b && !c) = true then [x] else []) ++ if d then [y] else [])) := fun b c d => by
      show rowsT (tx z k (presR [x, y] (thereR 2 [((0, x, 0, b) : Deed), (0, "", 0, c), (1, y, 1, d)]))) = _
      rw [th4 mx my, pr2]
    have g3 : ∀ b c, GOk z k [x] [((0, x, 0, b) : Deed), (0, "", 0, c)] (spG k m) := fun b c => (g1 b).deed (by show 1 ≤ 90; decide) (d := (0, "", 0, c)) (by show 0 < 1; decide)
    have g4 : ∀ b c d, GOk z k [x, y] [((0, x, 0, b) : Deed), (0, "", 0, c), (1, y, 1, d)] (spG k m) := fun b c d => ((g3 b c).more (h := 1) (by show 2 ≤ 90; decide) (by show 1 ≤ 1; decide) my).turn 2 d
    have u_ : ∀ (u0 u1 : List Nat) (ds : List Deed), u0.length ≤ 100 → u1.length ≤ 100 → (∀ n ∈ u0, n < ds.length) → (∀ n ∈ u1, n < ds.length) → UsOk (usG u0 u1 m) ds (spG k m) := us2
    have u0_ : ∀ ds, UsOk (usG [] [] m) ds (spG k m) := fun ds => us2 [] [] ds (by decide) (by decide) (fun n hn => by cases hn) (fun n hn => by cases hn)
    -- the first page
    refine ⟨_, rfl, tb, a.dx, _, rfl, o.tab.ob, rfl, tnil_go (o.page g0 (u0_ _) fun r0 ps0 H1 hl0 o1 => ?_)⟩
    rw [e00] at hl0 o1
    -- pressed
    refine ⟨_, rfl, tb, a.dx, _, rfl, o1.tab.ob, rfl, _, rfl, sg, _, 0, .str x, rfl, rfl, o1.sgn, atI_nat (j := 0) rfl, o1.press (h := 0) g0 (u0_ _) (by decide) (by decide) mx rfl (by omega) (by rw [show pgG z k ([] ++ [x]) ([] ++ [((0, x, ([] : List Str).length, true) : Deed)]) = _ from q1 true]; exact ro.px) fun a2 H2 o2 => ?_⟩
    replace o2 : MS K cs B p1 p2 b l _ H sg x y _ tb a2 (GS z k [x] [((0, x, 0, true) : Deed)] (spG k m) (usG [] [] m)) H2 := o2
    refine ⟨_, rfl, tb, a2.dx, _, rfl, o2.tab.ob, rfl, tnil_go (o2.page (g1 true) (u0_ _) fun r1 ps1 H3 hl1 o3 => ?_)⟩
    rw [show pgG z k [x] [((0, x, 0, true) : Deed)] = rowsT (tx z k [x]) from q1 true] at hl1 o3
    -- rubbed
    refine ⟨_, rfl, tb, a2.dx, _, rfl, o3.tab.ob, rfl, tone_go (o3.rub (h := 0) (g1 true) (u0_ _) (by show 1 ≤ 90; decide) (by omega) rfl (th1 mx my true) (by rw [show pgG z k [x] ([((0, x, 0, true) : Deed)] ++ [((0, ("" : Str), 0, true) : Deed)]) = _ from q3 true true]; exact ro.p0) fun a4 H4 o4 => ?_)⟩
    replace o4 : MS K cs B p1 p2 b l _ H sg x y _ tb a4 (GS z k [x] [((0, x, 0, true) : Deed), (0, "", 0, true)] (spG k m) (usG [] [] m)) H4 := o4
    refine ⟨_, rfl, tb, a4.dx, _, rfl, o4.tab.ob, rfl, tnil_go (o4.page (g3 true true) (u0_ _) fun r2 ps2 H5 hl2 o5 => ?_)⟩
    rw [show pgG z k [x] [((0, x, 0, true) : Deed), (0, "", 0, true)] = rowsT (tx z k []) from q3 true true] at hl2 o5
    refine ⟨_, rfl, page_ne ro.p0 hl2 hl0 (fun q hq => (o5.kp q (List.mem_append_left _ hq)).1) (fun q hq => (o5.kp q (List.mem_append_right _ (List.mem_append_right _ (List.mem_append_left _ hq)))).1) ⟨false, rfl, iteF ?_⟩⟩
    refine ⟨_, rfl, tb, a4.dx, _, rfl, o5.tab.ob, rfl, _, rfl, sg, _, 1, .str y, rfl, rfl, o5.sgn, atI_nat (j := 1) rfl, o5.press (h := 1) (g3 true true) (u0_ _) (by show 2 ≤ 90; decide) (by show 1 ≤ 1; decide) my rfl (by omega) (by rw [show pgG z k ([x] ++ [y]) ([((0, x, 0, true) : Deed), (0, "", 0, true)] ++ [((1, y, [x].length, true) : Deed)]) = _ from q4 true true true]; exact ro.py) fun a6 H6 o6 => ⟨rfl, false, rfl, iteF ?_⟩⟩
    replace o6 : MS K cs B p1 p2 b l _ H sg x y _ tb a6 (GS z k [x, y] [((0, x, 0, true) : Deed), (0, "", 0, true), (1, y, 1, true)] (spG k m) (usG [] [] m)) H6 := o6
    have tk6 := (g4 true true true).tok (u0_ [((0, x, 0, true) : Deed), (0, "", 0, true), (1, y, 1, true)]).len (u0_ [((0, x, 0, true) : Deed), (0, "", 0, true), (1, y, 1, true)]).us
    -- refused
    refine ⟨_, rfl, _, rfl, o6.l2, fun f1 cc H7 e1 e2 t1 nf hf hc cl Tc un => ?_⟩
    refine (o6.lamC (.inr rfl) e1 e2 (fun e => absurd e.symm o6.nn) (fun _ => t1)).refused sc_lb Tc un rfl rfl rfl hf hc (lok_b X Mb Gx bb) tk6 mm (by rw [rows_G ro.kl, q4 true true true]; exact ro.py) (fun d hd => ?_) (fun K1 t d Z E' hE => ?_) fun H8' o8 told => ⟨true, rfl, iteF ?_⟩
    · rcases List.mem_cons.mp hd with e | e
      · rw [e]; exact .inl mx
      rcases List.mem_cons.mp e with e | e
      · rw [e]; exact .inr rfl
      rcases List.mem_cons.mp e with e | e
      · rw [e]; exact .inl my
      · cases e
    · have es : (stR (GS z k [x, y] [((0, x, 0, true) : Deed), (0, "", 0, true), (1, y, 1, true)] (spG k m) (usG [] [] m)).deeds 0 (GS z k [x, y] [((0, x, 0, true) : Deed), (0, "", 0, true), (1, y, 1, true)] (spG k m) (usG [] [] m)).deeds.length).getLast? = some 1 := by
        show (stR (dsN (z.length + 1) [((0, x, 0, true) : Deed), (0, "", 0, true), (1, y, 1, true)]) 0 3).getLast? = some 1
        rw [stR_G]
        rfl
      refine ⟨tb, 0, a6, _, rfl, t, d, tk6, by show 0 < (spG k m).length; omega, fun n _ => ?_, fun c => absurd (c 1 es) ?_, fun n _ _ H' x => hE H' x⟩
      · rw [turn_G]
        exact ((g4 true true true).turn n false).set (S := GS z k [x, y] [((0, x, 0, true) : Deed), (0, "", 0, true), (1, y, 1, true)] (spG k m) (usG [] [] m))
      · rw [turn_G]
        have e : pageR (GS z k [x, y] [((0, x, 0, true) : Deed), (0, "", 0, true), (1, y, 1, true)] (spG k m) (usG [] [] m)).signs (GS z k [x, y] [((0, x, 0, true) : Deed), (0, "", 0, true), (1, y, 1, true)] (spG k m) (usG [] [] m)).order (dsN (z.length + 1) (turnD [((0, x, 0, true) : Deed), (0, "", 0, true), (1, y, 1, true)] 1 false)) = pgG z k [x, y] [((0, x, 0, true) : Deed), (0, "", 0, false), (1, y, 1, true)] := page_G ro.kl
        rw [e, q4 true false true]
        exact ro.pxy
    replace o8 := o8 told
    generalize delC H8' cl = H8 at o8 ⊢
    -- the other one's taken back
    refine ⟨_, rfl, tb, a6.dx, _, rfl, o8.tab.ob, rfl, tone_go (o8.back (h := 1) (n := 2) (g4 true true true) (u0_ _) (by omega) rfl (by rw [show pgG z k [x, y] (turnD [((0, x, 0, true) : Deed), (0, "", 0, true), (1, y, 1, true)] 2 false) = _ from q4 true true false]; exact ro.p0) fun a9 H9 o9 => ⟨true, true, rfl, rfl, false, rfl, iteF ?_⟩)⟩
    replace o9 : MS K cs B p1 p2 b l _ H sg x y _ tb a9 (GS z k [x, y] [((0, x, 0, true) : Deed), (0, "", 0, true), (1, y, 1, false)] (spG k m) (usG [] [2] m)) H9 := o9
    have l2 : ∀ n ∈ ([2] : List Nat), n < 3 := fun n hn => by rw [List.mem_singleton] at hn; omega
    have l1 : ∀ n ∈ ([1] : List Nat), n < 3 := fun n hn => by rw [List.mem_singleton] at hn; omega
    have ua : ∀ b c d, UsOk (usG [] [2] m) [((0, x, 0, b) : Deed), (0, "", 0, c), (1, y, 1, d)] (spG k m) := fun b c d => us2 [] [2] _ (by decide) (by decide) (fun n hn => by cases hn) l2
    have ub : ∀ b c d, UsOk (usG [1] [2] m) [((0, x, 0, b) : Deed), (0, "", 0, c), (1, y, 1, d)] (spG k m) := fun b c d => us2 [1] [2] _ (by decide) (by decide) l1 l2
    have uc : ∀ b c d, UsOk (usG [1, 0] [2] m) [((0, x, 0, b) : Deed), (0, "", 0, c), (1, y, 1, d)] (spG k m) := fun b c d => us2 [1, 0] [2] _ (by decide) (by decide) (fun n hn => by
      show n < 3
      rcases List.mem_cons.mp hn with e | e
      · omega
      · rw [List.mem_singleton] at e; omega) l2
    -- the rub taken back
    refine ⟨_, rfl, tb, a9.dx, _, rfl, o9.tab.ob, rfl, tone_go (o9.back (h := 0) (n := 1) (g4 true true false) (ua _ _ _) (by omega) rfl (by rw [show pgG z k [x, y] (turnD [((0, x, 0, true) : Deed), (0, "", 0, true), (1, y, 1, false)] 1 false) = _ from q4 true false false]; exact ro.px) fun a10 H10 o10 => ⟨true, true, rfl, rfl, false, rfl, iteF ?_⟩)⟩
    replace o10 : MS K cs B p1 p2 b l _ H sg x y _ tb a10 (GS z k [x, y] [((0, x, 0, true) : Deed), (0, "", 0, false), (1, y, 1, false)] (spG k m) (usG [1] [2] m)) H10 := o10
    refine ⟨_, rfl, tb, a10.dx, _, rfl, o10.tab.ob, rfl, tnil_go (o10.page (g4 true false false) (ub _ _ _) fun r3 ps3 H11 hl3 o11 => ?_)⟩
    rw [show pgG z k [x, y] [((0, x, 0, true) : Deed), (0, "", 0, false), (1, y, 1, false)] = rowsT (tx z k [x]) from q4 true false false] at hl3 o11
    refine ⟨_, rfl, page_ne ro.px hl3 hl1 (fun q hq => (o11.kp q (List.mem_append_left _ hq)).1) (fun q hq => (o11.kp q (List.mem_append_right _ (List.mem_append_right _ (List.mem_append_left _ hq)))).1) ⟨false, rfl, iteF ?_⟩⟩
    refine ⟨_, rfl, tb, a10.dx, _, rfl, o11.tab.ob, rfl, tone_go (o11.again (h := 0) (n := 1) (g4 true false false) (ub _ _ _) (by omega) rfl (by rw [show pgG z k [x, y] (turnD [((0, x, 0, true) : Deed), (0, "", 0, false), (1, y, 1, false)] 1 true) = _ from q4 true true false]; exact ro.p0) fun a12 H12 o12 => ⟨true, true, rfl, rfl, false, rfl, iteF ?_⟩)⟩
    replace o12 : MS K cs B p1 p2 b l _ H sg x y _ tb a12 (GS z k [x, y] [((0, x, 0, true) : Deed), (0, "", 0, true), (1, y, 1, false)] (spG k m) (usG [] [2] m)) H12 := o12
    -- the end
    refine ⟨_, rfl, tb, a12.dx, _, rfl, o12.tab.ob, rfl, tnil_go (o12.page (g4 true true false) (ua _ _ _) fun r4 ps4 H13 hl4 o13 => ?_)⟩
    rw [show pgG z k [x, y] [((0, x, 0, true) : Deed), (0, "", 0, true), (1, y, 1, false)] = rowsT (tx z k []) from q4 true true false] at hl4 o13
    refine ⟨_, rfl, page_eq ro.p0 hl4 hl0 (fun q hq => (o13.kp q (List.mem_append_left _ hq)).1) (fun q hq => (o13.kp q (List.mem_append_right _ (List.mem_append_right _ (List.mem_append_right _ (List.mem_append_right _ (List.mem_append_left _ hq)))))).1) ⟨true, rfl, iteT ?_⟩⟩
    refine ⟨_, rfl, tb, a12.dx, _, rfl, o13.tab.ob, rfl, tone_go (o13.back (h := 0) (n := 1) (g4 true true false) (ua _ _ _) (by omega) rfl (by rw [show pgG z k [x, y] (turnD [((0, x, 0, true) : Deed), (0, "", 0, true), (1, y, 1, false)] 1 false) = _ from q4 true false false]; exact ro.px) fun a14 H14 o14 => ⟨true, true, rfl, rfl, true, rfl, iteT ?_⟩)⟩
    replace o14 : MS K cs B p1 p2 b l _ H sg x y _ tb a14 (GS z k [x, y] [((0, x, 0, true) : Deed), (0, "", 0, false), (1, y, 1, false)] (spG k m) (usG [1] [2] m)) H14 := o14
    refine ⟨_, rfl, tb, a14.dx, _, rfl, o14.tab.ob, rfl, tone_go (o14.back (h := 0) (n := 0) (g4 true false false) (ub _ _ _) (by omega) rfl (by rw [show pgG z k [x, y] (turnD [((0, x, 0, true) : Deed), (0, "", 0, false), (1, y, 1, false)] 0 false) = _ from q4 false false false]; exact ro.p0) fun a15 H15 o15 => ⟨true, true, rfl, rfl, true, rfl, iteT ?_⟩)⟩
    replace o15 : MS K cs B p1 p2 b l _ H sg x y _ tb a15 (GS z k [x, y] [((0, x, 0, false) : Deed), (0, "", 0, false), (1, y, 1, false)] (spG k m) (usG [1, 0] [2] m)) H15 := o15
    refine ⟨_, rfl, tb, a15.dx, _, rfl, o15.tab.ob, rfl, tnil_go (o15.page (g4 false false false) (uc _ _ _) fun r5 ps5 H16 hl5 o16 => ?_)⟩
    rw [show pgG z k [x, y] [((0, x, 0, false) : Deed), (0, "", 0, false), (1, y, 1, false)] = rowsT (tx z k []) from q4 false false false] at hl5 o16
    refine ⟨_, rfl, page_eq ro.p0 hl5 hl0 (fun q hq => (o16.kp q (List.mem_append_left _ hq)).1) (fun q hq => (o16.kp q (List.mem_append_right _ (List.mem_append_right _ (List.mem_append_right _ (List.mem_append_right _ (List.mem_append_right _ (List.mem_append_left _ hq))))))).1) ?_⟩
    exact kk H16 o16.far o16.box o16.tbs o16.l1 o16.l2 o16.old
end
end TG

namespace TG
open PySem PySem.Spec PyProof.Rows L2 NdefX GenW Gx Lv
/-! ### both tables of the law -/
structure S2 (K : PySem.W.Frag) (cs : List (Addr × Addr)) (B p1 p2 b l sg : Addr) (x y : Str) (tl tb0 tb1 : Addr) (a0 : TA) (S0 : TSt) (a1 : TA) (S1 : TSt) (H : Hp) : Prop where
  box : BoxAt H b l
  t0 : TabD B H tb0 a0 S0
  t1 : TabD B H tb1 a1 S1
  tbs : Tabs cs H
  l1 : LamX.TabS H p1 qA
  l2 : LamX.TabS H p2 qB
  sgn : SqT K H sg [.str x, .str y]
  tls : H tl = some (.lst [.ref tb0, .ref tb1])
  d0 : ∀ c, ownT tb0 a0 c → ¬ ownT tb1 a1 c ∧ c ≠ b ∧ c ≠ l ∧ c ≠ tl
  d1 : ∀ c, ownT tb1 a1 c → c ≠ b ∧ c ≠ l ∧ c ≠ tl
  dt : tl ≠ b ∧ tl ≠ l
section
variable {K : PySem.W.Frag} {cs : List (Addr × Addr)} {B p1 p2 b l sg : Addr} {x y : Str} {tl tb0 tb1 : Addr} {a0 a0' a1 a1' : TA} {S0 S0' S1 S1' : TSt} {H H' : Hp}
theorem mob_some {A : Addr → Prop} (m : Mob H A) {c : Addr} (h : A c) : H c ≠ none := fun e => by
  rcases m c h with ⟨_, w⟩ | ⟨_, _, _, w⟩ <;> rw [e] at w <;> cases w
theorem own_box {tb dx : Addr} {a : TA} {fs : List (Str × V)} (hB : BoxAt H b l) (hob : H tb = some (.ins B dx fs)) (ow : ∀ c, ownT tb a c → c = tb ∨ H c = none) : ∀ c, ownT tb a c → c ≠ b ∧ c ≠ l := fun c hc => by
  have key : ∀ e, e = b ∨ e = l → c ≠ e := fun e he z => by
    rcases ow c hc with w | w
    · rcases hB with ⟨ns, s1, e1, e2, _⟩
      rcases he with h | h
      · rw [← h, ← z, w, hob] at e1; cases e1
      · rw [← h, ← z, w, hob] at e2; cases e2
    · exact mob_some (box_mobT hB) he (z ▸ w)
  exact ⟨key b (.inl rfl), key l (.inr rfl)⟩
theorem sqL_kn1 {tb dx C : Addr} {fs : List (Str × V)} {xs : List V} {c : Addr} (k : KM (fun c => c = tb) H H') (hob : H tb = some (.ins C dx fs)) (h : SqL K H c xs) : SqL K H' c xs := by
  rcases h with (h | ⟨u, h⟩) | h
  · exact .inl (.inl (k _ _ h (fun ps z => nomatch z) fun e => by rw [e, hob] at h; cases h))
  · exact .inl (.inr ⟨u, k _ _ h (fun ps z => nomatch z) fun e => by rw [e, hob] at h; cases h⟩)
  · exact .inr h
theorem page_kn1 {tb dx C pg : Addr} {fs : List (Str × V)} {as : List Addr} {rows : List (List Str)} (k : KM (fun c => c = tb) H H') (hob : H tb = some (.ins C dx fs)) (h : PageAt K H pg as rows) : PageAt K H' pg as rows :=
  ⟨sqL_kn1 k hob h.lst, h.len, fun i q z h1 h2 => sqT_km k (fun c hc => .inr ⟨_, _, _, hc ▸ hob⟩) (h.row i q z h1 h2)⟩
theorem S2.goes0 (o : S2 K cs B p1 p2 b l sg x y tl tb0 tb1 a0 S0 a1 S1 H) (n1 : ApartT cs p1) (n2 : ApartT cs p2) (k : KN cs (ownT tb0 a0) H H') (ow : ∀ c, ownT tb0 a0' c → ownT tb0 a0 c ∨ H c = none) (t : Tabs cs H') (td : TabD B H' tb0 a0' S0') : S2 K cs B p1 p2 b l sg x y tl tb0 tb1 a0' S0' a1 S1 H' := by
  have m := o.t0.mob
  refine ⟨box_kn o.box k (fun z => (o.d0 b z).2.1 rfl) (fun z => (o.d0 l z).2.2.1 rfl), td, o.t1.km k.w m fun c hc z => (o.d0 c z).1 hc, t, tabS_kn k m n1 o.l1, tabS_kn k m n2 o.l2, sqT_km k.w m o.sgn, k _ _ o.tls (.inl fun ps z => nomatch z) (fun z => (o.d0 tl z).2.2.2 rfl), fun c hc => ?_, o.d1, o.dt⟩
  rcases ow c hc with z | z
  · exact o.d0 c z
  · exact ⟨fun w => mob_some o.t1.mob w z, fun e => mob_some (box_mobT o.box) (.inl rfl) (e ▸ z), fun e => mob_some (box_mobT o.box) (.inr rfl) (e ▸ z), fun e => by rw [e, o.tls] at z; cases z⟩
theorem S2.goes1 (o : S2 K cs B p1 p2 b l sg x y tl tb0 tb1 a0 S0 a1 S1 H) (n1 : ApartT cs p1) (n2 : ApartT cs p2) (k : KN cs (ownT tb1 a1) H H') (ow : ∀ c, ownT tb1 a1' c → ownT tb1 a1 c ∨ H c = none) (t : Tabs cs H') (td : TabD B H' tb1 a1' S1') : S2 K cs B p1 p2 b l sg x y tl tb0 tb1 a0 S0 a1' S1' H' := by
  have m := o.t1.mob
  refine ⟨box_kn o.box k (fun z => (o.d1 b z).1 rfl) (fun z => (o.d1 l z).2.1 rfl), o.t0.km k.w m fun c hc z => (o.d0 c hc).1 z, td, t, tabS_kn k m n1 o.l1, tabS_kn k m n2 o.l2, sqT_km k.w m o.sgn, k _ _ o.tls (.inl fun ps z => nomatch z) (fun z => (o.d1 tl z).2.2 rfl), fun c hc => ⟨fun w => ?_, (o.d0 c hc).2⟩, fun c hc => ?_, o.dt⟩
  · rcases ow c w with z | z
    · exact (o.d0 c hc).1 z
    · exact mob_some o.t0.mob hc z
  · rcases ow c hc with z | z
    · exact o.d1 c z
    · exact ⟨fun e => mob_some (box_mobT o.box) (.inl rfl) (e ▸ z), fun e => mob_some (box_mobT o.box) (.inr rfl) (e ▸ z), fun e => by rw [e, o.tls] at z; cases z⟩
theorem S2.draw (o : S2 K cs B p1 p2 b l sg x y tl tb0 tb1 a0 S0 a1 S1 H) (n1 : ApartT cs p1) (n2 : ApartT cs p2) (hB : BoxAt H' b l) (k : KB b l H H') : S2 K cs B p1 p2 b l sg x y tl tb0 tb1 a0 S0 a1 S1 H' := by
  have m := box_mobT o.box
  have kn := kb_kn (cs := cs) k
  refine ⟨hB, o.t0.km kn.w m fun c hc z => ?_, o.t1.km kn.w m fun c hc z => ?_, tabs_km k o.box o.tbs, tabS_kn kn m n1 o.l1, tabS_kn kn m n2 o.l2, sqT_km kn.w m o.sgn, k _ _ o.tls o.dt.1 o.dt.2, o.d0, o.d1, o.dt⟩
  · have := o.d0 c hc
    rcases z with z | z
    · exact this.2.1 z
    · exact this.2.2.1 z
  · have := o.d1 c hc
    rcases z with z | z
    · exact this.1 z
    · exact this.2.1 z
variable {z : Str} {k h : Nat} {sp : List Nat} {us : List (List Nat)} {Q : VK} {E : XK}
theorem S2.right0 (o : S2 K cs B p1 p2 b l sg x y tl tb0 tb1 a0 (GS z 0 [] [] sp us) a1 S1 H) (n1 : ApartT cs p1) (n2 : ApartT cs p2) (g : GOk z 0 [] [] sp) (u : UsOk us [] sp) (hh : sp.getD h 0 = k) (hk : k ≤ z.length) (hlt : h < sp.length)
    (q : ∀ (v : V) (a' : TA) (H' : Hp), S2 K cs B p1 p2 b l sg x y tl tb0 tb1 a' (GS z 0 [] [] (sp.set h (min (k + 1) z.length)) us) a1 S1 H' → Q v H') : spTRight cs B [.ref tb0, .int (h : Nat)] H Q E := by
  refine ⟨tb0, h, a0, _, rfl, o.tbs, o.t0, g.tok u.len u.us, hlt, fun a' H' kn ow t od td => q _ a' H' ?_⟩
  rw [right_G hh hk hlt] at td
  exact o.goes0 n1 n2 kn ow t td
theorem S2.right1 (o : S2 K cs B p1 p2 b l sg x y tl tb0 tb1 a0 S0 a1 (GS z 0 [] [] sp us) H) (n1 : ApartT cs p1) (n2 : ApartT cs p2) (g : GOk z 0 [] [] sp) (u : UsOk us [] sp) (hh : sp.getD h 0 = k) (hk : k ≤ z.length) (hlt : h < sp.length)
    (q : ∀ (v : V) (a' : TA) (H' : Hp), S2 K cs B p1 p2 b l sg x y tl tb0 tb1 a0 S0 a' (GS z 0 [] [] (sp.set h (min (k + 1) z.length)) us) H' → Q v H') : spTRight cs B [.ref tb1, .int (h : Nat)] H Q E := by
  refine ⟨tb1, h, a1, _, rfl, o.tbs, o.t1, g.tok u.len u.us, hlt, fun a' H' kn ow t od td => q _ a' H' ?_⟩
  rw [right_G hh hk hlt] at td
  exact o.goes1 n1 n2 kn ow t td
theorem spG_ok {m : Nat} (sg : TxtSg z) (zl : z.length ≤ 100) (hm : m ≤ 2) (hk : k ≤ z.length) : GOk z 0 [] [] (spG k m) ∧ UsOk (usG [] [] m) [] (spG k m) := by
  refine ⟨⟨sg, zl, Nat.zero_le _, fun x hx => (by cases hx), by decide, fun d hd => (by cases hd), by decide, fun s hs => ?_, ?_⟩, ⟨?_, fun l hl => ?_⟩⟩
  · unfold spG at hs
    rcases List.mem_cons.mp hs with e | e
    · omega
    rcases List.mem_cons.mp e with e | e
    · omega
    · rw [(List.mem_replicate.mp e).2]
      omega
  · unfold spG
    show (List.replicate m 0).length + 1 + 1 ≤ 4
    rw [List.length_replicate]
    omega
  · unfold usG spG
    show (List.replicate m 0).length + 1 + 1 = (List.replicate m []).length + 1 + 1
    rw [List.length_replicate, List.length_replicate]
  · rcases List.mem_cons.mp hl with e | e
    · rw [e]; exact ⟨Nat.zero_le _, fun n hn => by cases hn⟩
    rcases List.mem_cons.mp e with e | e
    · rw [e]; exact ⟨Nat.zero_le _, fun n hn => by cases hn⟩
    · rw [(List.mem_replicate.mp e).2]
      exact ⟨Nat.zero_le _, fun n hn => by cases hn⟩
theorem spG_ok1 {m k' : Nat} (sg : TxtSg z) (zl : z.length ≤ 100) (hm : m ≤ 2) (hk : k ≤ z.length) (hk' : k' ≤ z.length) : GOk z 0 [] [] (k' :: k :: List.replicate m 0) ∧ UsOk (usG [] [] m) [] (k' :: k :: List.replicate m 0) := by
  obtain ⟨g, u⟩ := spG_ok (k := k) sg zl hm hk
  refine ⟨⟨g.sg, g.zl, g.kl, g.xm, g.xl, g.dm, g.dl, fun s hs => ?_, g.h4⟩, ⟨u.len, u.us⟩⟩
  rcases List.mem_cons.mp hs with e | e
  · omega
  · exact g.ps s (List.mem_cons_of_mem _ e)
/-- what is asked of the first table, and what of the second one -/
theorem S2.ms0 (o : S2 K cs B p1 p2 b l sg x y tl tb0 tb1 a0 S0 a1 S1 H) (n1 : ApartT cs p1) (n2 : ApartT cs p2) (nn : p1 ≠ p2) : MS K cs B p1 p2 b l (fun c => ownT tb0 a0 c ∨ c = b ∨ c = l) H sg x y [] tb0 a0 S0 H :=
  ⟨o.box, o.t0, o.tbs, o.l1, o.l2, n1, n2, nn, fun c hc => ⟨(o.d0 c hc).2.1, (o.d0 c hc).2.2.1⟩, fun c u h _ _ => h, fun c hc => .inl (.inl hc), ⟨.inr (.inl rfl), .inr (.inr rfl)⟩, fun c h => h, o.sgn, fun q hq => by cases hq⟩
theorem S2.ms1 (o : S2 K cs B p1 p2 b l sg x y tl tb0 tb1 a0 S0 a1 S1 H) (n1 : ApartT cs p1) (n2 : ApartT cs p2) (nn : p1 ≠ p2) (kn : KN ((p1, p1) :: (p2, p2) :: cs) (fun c => ownT tb0 a0 c ∨ c = b ∨ c = l) H H') (bx : BoxAt H' b l) (t : Tabs cs H') (h1 : LamX.TabS H' p1 qA) (h2 : LamX.TabS H' p2 qB) :
    MS K cs B p1 p2 b l (fun c => ownT tb1 a1 c ∨ c = b ∨ c = l) H' sg x y [] tb1 a1 S1 H' ∧ H' tl = some (.lst [.ref tb0, .ref tb1]) := by
  have m : Mob H (fun c => ownT tb0 a0 c ∨ c = b ∨ c = l) := fun c hc => by
    rcases hc with e | e
    · exact o.t0.mob c e
    · exact box_mobT o.box c e
  have t1 := o.t1.km kn.w m fun c hc z => by
    rcases z with e | e | e
    · exact (o.d0 c e).1 hc
    · exact (o.d1 c hc).1 e
    · exact (o.d1 c hc).2.1 e
  refine ⟨⟨bx, t1, t, h1, h2, n1, n2, nn, fun c hc => ⟨(o.d1 c hc).1, (o.d1 c hc).2.1⟩, fun c u h _ _ => h, fun c hc => .inl (.inl hc), ⟨.inr (.inl rfl), .inr (.inr rfl)⟩, fun c h => h, sqT_km kn.w m o.sgn, fun q hq => by cases hq⟩, kn _ _ o.tls (.inl fun ps z => nomatch z) fun z => ?_⟩
  rcases z with e | e | e
  · exact (o.d0 tl e).2.2.2 rfl
  · exact o.dt.1 e
  · exact o.dt.2 e
end
end TG

namespace TG
open PySem PySem.Spec PyProof.Rows L2 NdefX GenW Gx Lv
/-! ### the law -/
section
variable {P : Program} {w : World} {K : PySem.W.Frag} {mg : Str → Option Value} {base : Heap} {cs : List (Addr × Addr)} {B C p1 p2 : Addr}
def spLaw (K : PySem.W.Frag) (cs : List (Addr × Addr)) (p1 p2 : Addr) : Sp := fun vs H Q _ => ∃ (a : Addr) (ns : List Int), vs = [.ref a] ∧ Tabs cs H ∧ LamX.TabS H p1 qA ∧ LamX.TabS H p2 qB ∧ SqL K H a (ns.map V.int) ∧ ns.length ≤ 63 ∧ ∀ H', Q (.bl true) H'
abbrev nmLaw : List Str := ["_law_script", "_law_box", "_law_turn", "_law_way", "_law_hands", "_law_sign_here", "_law_more", "_law_page", "_law_signs", "_law_tables", "_law_table", "_law_again"]
theorem sc_law : FnScope nmLaw ["_law_script"] (defScope s_law) := ⟨rfl, rfl, rfl, by decide +kernel, rfl, by decide +kernel, by decide +kernel⟩
theorem pageAt1 {H : Hp} {p t : Addr} {r : List Str} (hp : H p = some (.lst [.ref t])) (ht : H t = some (.tup (sV r))) : PageAt K H p [t] [r] := ⟨SqL.of hp, rfl, fun i q z h1 h2 => by
  match i, h1, h2 with
  | 0, h1, h2 =>
    cases h1
    cases h2
    exact SqT.of ht
  | i + 1, h1, _ => simp at h1⟩
theorem pageAtN {H : Hp} {p t : Addr} {r : List Str} {n : Nat} (hp : H p = some (.lst (List.replicate n (V.ref t)))) (ht : H t = some (.tup (sV r))) : PageAt K H p (List.replicate n t) (List.replicate n r) := ⟨SqL.of (by rw [List.map_replicate]; exact hp), by rw [List.length_replicate, List.length_replicate], fun i q z h1 h2 => by
  have e1 := (List.mem_replicate.mp (List.mem_of_getElem? h1)).2
  have e2 := (List.mem_replicate.mp (List.mem_of_getElem? h2)).2
  rw [e1, e2]
  exact SqT.of ht⟩
theorem ok_law {f g1 g2 g3 g7 g8 gi gr : Addr} {fd fd1 fd2 fd3 fd7 fd8 fdi fdr : FuncData} (T : Txt mg) (X : TabC K B) (n1 : ApartT cs p1) (n2 : ApartT cs p2) (nn : p1 ≠ p2) (F : Fun K "law" "law" s_law f fd)
    (G1 : FnOk P w K mg base CX0 1 g1 fd1 ["_law_script"] (spBegun K)) (k1 : PySem.W.keepIn K (.ref g1) = true) (b1 : Binds K fd1 ["_law_script"] []) (m1 : mg "_law_begun" = some (.ref g1))
    (G2 : FnOk P w K mg base CX0 1 g2 fd2 ["_law_box", "_law_many"] spTake) (k2 : PySem.W.keepIn K (.ref g2) = true) (b2 : Binds K fd2 ["_law_box", "_law_many"] []) (m2 : mg "_law_take" = some (.ref g2))
    (G3 : FnOk P w K mg base CX0 2 g3 fd3 ["_law_box"] spSign) (k3 : PySem.W.keepIn K (.ref g3) = true) (b3 : Binds K fd3 ["_law_box"] []) (m3 : mg "_law_sign" = some (.ref g3))
    (G7 : FnOk P w K mg base CX0 17 g7 fd7 ["_law_box", "_law_table", "_law_signs"] (spTried K cs B p1 p2)) (k7 : PySem.W.keepIn K (.ref g7) = true) (b7 : Binds K fd7 ["_law_box", "_law_table", "_law_signs"] []) (m7 : mg "_law_pressed_again" = some (.ref g7))
    (G8 : FnOk P w K mg base CX0 17 g8 fd8 ["_law_box", "_law_table", "_law_signs"] (spTried K cs B p1 p2)) (k8 : PySem.W.keepIn K (.ref g8) = true) (b8 : Binds K fd8 ["_law_box", "_law_table", "_law_signs"] []) (m8 : mg "_law_rubbed_back" = some (.ref g8))
    (MC : Mk K B gi) (GC : FnOk P w K mg base CX0 13 gi fdi ["self", "page", "style", "hands"] (spTInit K cs B)) (bC : Binds K fdi ["self", "page", "style", "hands"] []) (mC : mg "Table" = some (.ref B))
    (Mr : Meth K B "right" gr) (Gr : FnOk P w K mg base CX0 5 gr fdr ["self", "hand"] (spTRight cs B)) (br : Binds K fdr ["self", "hand"] []) :
    FnOk P w K mg base CX0 18 f fd ["_law_script"] (spLaw K cs p1 p2) := by
  refine F.ok sc_law (fun vs H Q E h => ?_) (fun cdv A outer s H vs Q E hr h => ?_)
  · obtain ⟨a, ns, rfl, _⟩ := h
    rfl
  · obtain ⟨a, ns, rfl, hT, hL1, hL2, hS, hl, k⟩ := h
    have nd := sc_law.nd
    have hu := hr.units
    have r1 : Room 1 _ := hr.mono (by decide)
    have r2 : Room 2 _ := hr.mono (by decide)
    have r5 : Room 5 _ := hr.mono (by decide)
    have r14 : Room 14 _ := hr.mono (by decide)
    have r17 : Room 17 _ := hr
    refine ⟨_, pss_cons (ps_set (i := 1) nd rfl (.inl rfl) (pe_call G1 r1 (by rfl) m1 k1 b1 .nil pass0 (pa_cons (pv 0) pa_nil)))
      (pss_cons (ps_for PassesOwn.never rfl (pi_range1 (by rfl) T.range (pa_cons pe_int pa_nil)) (pg_name (i := 2) nd rfl (.inl rfl))
        (pss_cons (ps_par (i := 3) (j := 4) rfl nd rfl rfl (by decide) rfl rfl (pa_cons (pe_call G2 r1 (by rfl) m2 k2 b2 .nil pass0 (pa_cons (pv 1) (pa_cons pe_int pa_nil))) (pa_cons (pe_op op_add pe_int (pe_call G2 r1 (by rfl) m2 k2 b2 .nil pass0 (pa_cons (pv 1) (pa_cons pe_int pa_nil)))) pa_nil)) (by rfl))
        (pss_cons (ps_par (i := 5) (j := 6) rfl nd rfl rfl (by decide) rfl rfl (pa_cons (pe_call G3 r2 (by rfl) m3 k3 b3 .nil pass0 (pa_cons (pv 1) pa_nil)) (pa_cons (pe_call G3 r2 (by rfl) m3 k3 b3 .nil pass0 (pa_cons (pv 1) pa_nil)) pa_nil)) (by rfl))
        (pss_cons (ps_set (i := 7) nd rfl (.inl rfl) (pe_ix ix_list (pe_lst (pa_cons (pe_lst (pa_cons (pe_tup (pa_cons pe_str pa_nil)) pa_nil)) (pa_cons (pe_lst (pa_cons (pe_op op_repT (pe_tup (pa_cons pe_str pa_nil)) pe_int) pa_nil)) (pa_cons (pe_op op_rep (pe_lst (pa_cons (pe_tup (pa_cons pe_str pa_nil)) pa_nil)) pe_int) pa_nil)))) (pv 3) (fun _ _ => rfl)))
        (pss_cons (ps_set (i := 8) nd rfl (.inl rfl) (pe_ix ix_list (pe_lst (pa_cons (pe_tup (pa_cons (pv 5) (pa_cons (pv 6) pa_nil))) (pa_cons (pe_tup (pa_cons pe_str (pa_cons pe_str pa_nil))) (pa_cons (pe_tup (pa_cons pe_str (pa_cons pe_str pa_nil))) pa_nil)))) (pv 3) (fun _ _ => rfl)))
        (pss_cons (ps_set (i := 9) nd rfl (.inl rfl) (pe_lst (pa_cons (pe_make MC GC r14 (by rfl) mC bC .nil pass0 (pa_cons (pv 7) (pa_cons (pe_tup (pa_cons pe_int (pa_cons pe_int pa_nil))) (pa_cons (pv 4) pa_nil)))) (pa_cons (pe_make MC GC r14 (by rfl) mC bC .nil pass0 (pa_cons (pv 7) (pa_cons (pe_tup (pa_cons pe_int (pa_cons pe_int pa_nil))) (pa_cons (pv 4) pa_nil)))) pa_nil))))
        (pss_cons (ps_for PassesOwn.never rfl (pi_list (pv 9)) (pg_name (i := 10) nd rfl (.inl rfl))
          (pss_one (ps_for PassesOwn.never rfl (pi_range1 (by rfl) T.range (pa_cons (pe_call G2 r1 (by rfl) m2 k2 b2 .nil pass0 (pa_cons (pv 1) (pa_cons pe_int pa_nil))) pa_nil)) (pg_name (i := 11) nd rfl (.inl rfl))
            (pss_cons (ps_expr (pe_meth (pv 10) X.cls Mr Gr r5 br .nil pass0 (pa_cons pe_int pa_nil))) (pss_one (ps_expr (pe_meth (pv 10) X.cls Mr Gr r5 br .nil pass0 (pa_cons pe_int pa_nil))))))))
        (pss_one (ps_if (PW.pt (pw_or (pt_not (pt_val (pe_call G7 r17 (by rfl) m7 k7 b7 .nil pass0 (pa_cons (pv 1) (pa_cons (pe_ix ix_list (pv 9) pe_int (fun _ _ => rfl)) (pa_cons (pv 8) pa_nil)))))) (pw_or1 (pt_not (pt_val (pe_call G8 r17 (by rfl) m8 k8 b8 .nil pass0 (pa_cons (pv 1) (pa_cons (pe_ix ix_list (pv 9) pe_int (fun _ _ => rfl)) (pa_cons (pv 8) pa_nil))))))))) (pss_one (ps_ret pe_bl)) pss_nil)))))))))
      (pss_one (ps_ret pe_bl))), ?_⟩
    have szl : (9000 : Nat) < sizeLine := by decide
    refine ⟨_, rfl, a, ns, rfl, hS, hl, fun b l H1 hB1 x1 nb nl => ?_⟩
    have mF : Mob H (fun _ => False) := fun c z => z.elim
    refine ⟨_, rfl, by decide, by decide, for_range (n := 2) (fun _ σ H' => ∃ (c2 c3 c4 c5 c6 c7 c8 c9 c10 c11 : Option V), σ = [some (.ref a), some (.ref b), c2, c3, c4, c5, c6, c7, c8, c9, c10, c11] ∧ BoxAt H' b l ∧ Tabs cs H' ∧ LamX.TabS H' p1 qA ∧ LamX.TabS H' p2 qB)
      ⟨none, none, none, none, none, none, none, none, none, none, rfl, hB1, (same_ex x1 hT).tab, tabS_kn (KN.same x1) mF n1 hL1, tabS_kn (KN.same x1) mF n2 hL2⟩ ?_ ?_⟩
    rotate_left
    · rintro σ H' ⟨c2, c3, c4, c5, c6, c7, c8, c9, c10, c11, rfl, _⟩
      exact k _
    clear hL1 hL2 hT hS hB1 x1 nb nl
    rintro i σ H2 hi ⟨c2, c3, c4, c5, c6, c7, c8, c9, c10, c11, rfl, hB2, t2, la1, la2⟩
    refine ⟨_, rfl, b, l, 3, rfl, hB2, by decide, by decide, fun wy H3 w0 w1 hB3 x3 => ?_⟩
    refine ⟨_, rfl, b, l, 3, rfl, hB3, by decide, by decide, fun hd H4 h0 h1 hB4 x4 => ⟨2, hd, rfl, rfl, ⟨_, _, rfl, ?_⟩⟩⟩
    refine ⟨_, rfl, b, l, rfl, hB4, fun c0 H5 hc0 hB5 x5 => ⟨_, rfl, b, l, rfl, hB5, fun d0 H6 hd0 hB6 x6 => ⟨_, _, rfl, ?_⟩⟩⟩
    have x26 := x3.trans (x4.trans (x5.trans x6))
    have t6 := tabs_km x26 hB2 t2
    have la1 := tabS_kn (kb_kn (cs := cs) x26) (box_mobT hB2) n1 la1
    have la2 := tabS_kn (kb_kn (cs := cs) x26) (box_mobT hB2) n2 la2
    clear x26 x3 x4 x5 x6 hB2 hB3 hB4 hB5 t2
    obtain ⟨m, rfl⟩ := Int.eq_ofNat_of_zero_le h0
    obtain ⟨wy, rfl⟩ := Int.eq_ofNat_of_zero_le w0
    have hm : m ≤ 2 := by omega
    have hw : wy < 3 := by omega
    -- the page
    refine ⟨by show 1 ≤ sizeLine; decide, fun t0 nt0 => ⟨by show 1 ≤ sizeLine; decide, fun p0 np0 => ⟨by show 1 ≤ sizeLine; decide, fun e1 ne1 => ⟨e1, 5, [.str ""], rfl, rfl, SqT.of upd_same, by simp, by decide, by decide, by decide, fun t1 nt1 => ⟨by show 1 ≤ sizeLine; decide, fun q1 nq1 => ⟨by show 1 ≤ sizeLine; decide, fun u2 nu2 => ⟨by show 1 ≤ sizeLine; decide, fun l2 nl2 => ⟨l2, 29, [.ref u2], rfl, rfl, upd_same, by decide, by decide, by show 1 * 29 ≤ sizeLine; decide, fun q2 nq2 => ⟨by show 3 ≤ sizeLine; decide, fun pl npl => ?_⟩⟩⟩⟩⟩⟩⟩⟩⟩
    have s1 := same_new (o := HO.tup [V.str "abcdefghi"]) nt0
    have s2 := same_new (o := HO.lst [V.ref t0]) np0
    have s3 := same_new (o := HO.tup [V.str ""]) ne1
    have s4 := same_new (o := HO.tup (List.replicate (Int.toNat 5) [V.str ""]).flatten) nt1
    have s5 := same_new (o := HO.lst [V.ref t1]) nq1
    have s6 := same_new (o := HO.tup [V.str "a"]) nu2
    have s7 := same_new (o := HO.lst [V.ref u2]) nl2
    have s8 := same_new (o := HO.lst (List.replicate (Int.toNat 29) [V.ref u2]).flatten) nq2
    have s9 := same_new (o := HO.lst [V.ref p0, V.ref q1, V.ref q2]) npl
    have ft0 : (upd (upd (upd (upd (upd (upd (upd (upd (upd H6 t0 (.tup [V.str "abcdefghi"])) p0 (.lst [V.ref t0])) e1 (.tup [V.str ""])) t1 (.tup (List.replicate (Int.toNat 5) [V.str ""]).flatten)) q1 (.lst [V.ref t1])) u2 (.tup [V.str "a"])) l2 (.lst [V.ref u2])) q2 (.lst (List.replicate (Int.toNat 29) [V.ref u2]).flatten)) pl (.lst [V.ref p0, V.ref q1, V.ref q2])) t0 = some (.tup [V.str "abcdefghi"]) := (s9 _ _ (s8 _ _ (s7 _ _ (s6 _ _ (s5 _ _ (s4 _ _ (s3 _ _ (s2 _ _ upd_same))))))))
    have fp0 : (upd (upd (upd (upd (upd (upd (upd (upd (upd H6 t0 (.tup [V.str "abcdefghi"])) p0 (.lst [V.ref t0])) e1 (.tup [V.str ""])) t1 (.tup (List.replicate (Int.toNat 5) [V.str ""]).flatten)) q1 (.lst [V.ref t1])) u2 (.tup [V.str "a"])) l2 (.lst [V.ref u2])) q2 (.lst (List.replicate (Int.toNat 29) [V.ref u2]).flatten)) pl (.lst [V.ref p0, V.ref q1, V.ref q2])) p0 = some (.lst [V.ref t0]) := (s9 _ _ (s8 _ _ (s7 _ _ (s6 _ _ (s5 _ _ (s4 _ _ (s3 _ _ upd_same)))))))
    have fe1 : (upd (upd (upd (upd (upd (upd (upd (upd (upd H6 t0 (.tup [V.str "abcdefghi"])) p0 (.lst [V.ref t0])) e1 (.tup [V.str ""])) t1 (.tup (List.replicate (Int.toNat 5) [V.str ""]).flatten)) q1 (.lst [V.ref t1])) u2 (.tup [V.str "a"])) l2 (.lst [V.ref u2])) q2 (.lst (List.replicate (Int.toNat 29) [V.ref u2]).flatten)) pl (.lst [V.ref p0, V.ref q1, V.ref q2])) e1 = some (.tup [V.str ""]) := (s9 _ _ (s8 _ _ (s7 _ _ (s6 _ _ (s5 _ _ (s4 _ _ upd_same))))))
    have ft1 : (upd (upd (upd (upd (upd (upd (upd (upd (upd H6 t0 (.tup [V.str "abcdefghi"])) p0 (.lst [V.ref t0])) e1 (.tup [V.str ""])) t1 (.tup (List.replicate (Int.toNat 5) [V.str ""]).flatten)) q1 (.lst [V.ref t1])) u2 (.tup [V.str "a"])) l2 (.lst [V.ref u2])) q2 (.lst (List.replicate (Int.toNat 29) [V.ref u2]).flatten)) pl (.lst [V.ref p0, V.ref q1, V.ref q2])) t1 = some (.tup (List.replicate (Int.toNat 5) [V.str ""]).flatten) := (s9 _ _ (s8 _ _ (s7 _ _ (s6 _ _ (s5 _ _ upd_same)))))
    have fq1 : (upd (upd (upd (upd (upd (upd (upd (upd (upd H6 t0 (.tup [V.str "abcdefghi"])) p0 (.lst [V.ref t0])) e1 (.tup [V.str ""])) t1 (.tup (List.replicate (Int.toNat 5) [V.str ""]).flatten)) q1 (.lst [V.ref t1])) u2 (.tup [V.str "a"])) l2 (.lst [V.ref u2])) q2 (.lst (List.replicate (Int.toNat 29) [V.ref u2]).flatten)) pl (.lst [V.ref p0, V.ref q1, V.ref q2])) q1 = some (.lst [V.ref t1]) := (s9 _ _ (s8 _ _ (s7 _ _ (s6 _ _ upd_same))))
    have fu2 : (upd (upd (upd (upd (upd (upd (upd (upd (upd H6 t0 (.tup [V.str "abcdefghi"])) p0 (.lst [V.ref t0])) e1 (.tup [V.str ""])) t1 (.tup (List.replicate (Int.toNat 5) [V.str ""]).flatten)) q1 (.lst [V.ref t1])) u2 (.tup [V.str "a"])) l2 (.lst [V.ref u2])) q2 (.lst (List.replicate (Int.toNat 29) [V.ref u2]).flatten)) pl (.lst [V.ref p0, V.ref q1, V.ref q2])) u2 = some (.tup [V.str "a"]) := (s9 _ _ (s8 _ _ (s7 _ _ upd_same)))
    have fl2 : (upd (upd (upd (upd (upd (upd (upd (upd (upd H6 t0 (.tup [V.str "abcdefghi"])) p0 (.lst [V.ref t0])) e1 (.tup [V.str ""])) t1 (.tup (List.replicate (Int.toNat 5) [V.str ""]).flatten)) q1 (.lst [V.ref t1])) u2 (.tup [V.str "a"])) l2 (.lst [V.ref u2])) q2 (.lst (List.replicate (Int.toNat 29) [V.ref u2]).flatten)) pl (.lst [V.ref p0, V.ref q1, V.ref q2])) l2 = some (.lst [V.ref u2]) := (s9 _ _ (s8 _ _ upd_same))
    have fq2 : (upd (upd (upd (upd (upd (upd (upd (upd (upd H6 t0 (.tup [V.str "abcdefghi"])) p0 (.lst [V.ref t0])) e1 (.tup [V.str ""])) t1 (.tup (List.replicate (Int.toNat 5) [V.str ""]).flatten)) q1 (.lst [V.ref t1])) u2 (.tup [V.str "a"])) l2 (.lst [V.ref u2])) q2 (.lst (List.replicate (Int.toNat 29) [V.ref u2]).flatten)) pl (.lst [V.ref p0, V.ref q1, V.ref q2])) q2 = some (.lst (List.replicate (Int.toNat 29) [V.ref u2]).flatten) := (s9 _ _ upd_same)
    have fpl : (upd (upd (upd (upd (upd (upd (upd (upd (upd H6 t0 (.tup [V.str "abcdefghi"])) p0 (.lst [V.ref t0])) e1 (.tup [V.str ""])) t1 (.tup (List.replicate (Int.toNat 5) [V.str ""]).flatten)) q1 (.lst [V.ref t1])) u2 (.tup [V.str "a"])) l2 (.lst [V.ref u2])) q2 (.lst (List.replicate (Int.toNat 29) [V.ref u2]).flatten)) pl (.lst [V.ref p0, V.ref q1, V.ref q2])) pl = some (.lst [V.ref p0, V.ref q1, V.ref q2]) := upd_same
    have sS := (same_trans (same_trans (same_trans (same_trans (same_trans (same_trans (same_trans (same_trans s1 s2) s3) s4) s5) s6) s7) s8) s9)
    clear s1 s2 s3 s4 s5 s6 s7 s8 s9
    generalize upd (upd (upd (upd (upd (upd (upd (upd (upd H6 t0 (.tup [V.str "abcdefghi"])) p0 (.lst [V.ref t0])) e1 (.tup [V.str ""])) t1 (.tup (List.replicate (Int.toNat 5) [V.str ""]).flatten)) q1 (.lst [V.ref t1])) u2 (.tup [V.str "a"])) l2 (.lst [V.ref u2])) q2 (.lst (List.replicate (Int.toNat 29) [V.ref u2]).flatten)) pl (.lst [V.ref p0, V.ref q1, V.ref q2]) = H7 at sS ft0 fp0 fe1 ft1 fq1 fu2 fl2 fq2 fpl ⊢
    have e1' : (List.replicate (Int.toNat 5) [V.str ""]).flatten = sV ["", "", "", "", ""] := rfl
    have e2' : (List.replicate (Int.toNat 29) [V.ref u2]).flatten = List.replicate 29 (V.ref u2) := rfl
    rw [e1'] at ft1
    rw [e2'] at fq2
    obtain ⟨pg, as, hv, PA⟩ : ∃ (pg : Addr) (as : List Addr), ([V.ref p0, V.ref q1, V.ref q2] : List V)[wy]? = some (.ref pg) ∧ PageAt K H7 pg as (pgW wy) := by
      have w3 : wy = 0 ∨ wy = 1 ∨ wy = 2 := by omega
      rcases w3 with e | e | e <;> rw [e]
      · exact ⟨p0, [t0], rfl, pageAt1 fp0 ft0⟩
      · exact ⟨q1, [t1], rfl, pageAt1 fq1 ft1⟩
      · exact ⟨q2, _, rfl, pageAtN fq2 fu2⟩
    refine ⟨_, rfl, pl, _, _, .ref pg, rfl, rfl, SqL.of fpl, atI_nat hv, ?_⟩
    have x67 := same_ex sS t6
    have la1 := tabS_kn (KN.same (cs := cs) sS) (A := fun _ => False) (fun c z => z.elim) n1 la1
    have la2 := tabS_kn (KN.same (cs := cs) sS) (A := fun _ => False) (fun c z => z.elim) n2 la2
    have hB7 := box_exT hB6 x67
    have t7 := x67.tab
    clear x67 sS ft0 fp0 fe1 ft1 fq1 fu2 fl2 fq2 fpl e1' e2' hB6 t6 hv
    -- the signs
    refine ⟨_, rfl, _, rfl, by show 2 ≤ sizeLine; decide, fun y0 ny0 => ⟨by show 2 ≤ sizeLine; decide, fun y1 ny1 => ⟨by show 2 ≤ sizeLine; decide, fun y2 ny2 => ⟨by show 3 ≤ sizeLine; decide, fun yl nyl => ?_⟩⟩⟩⟩
    skip
    have s1 := same_new (o := HO.tup [V.str ⟨#[c0]⟩, V.str ⟨#[d0]⟩]) ny0
    have s2 := same_new (o := HO.tup [V.str "\t", V.str "\t"]) ny1
    have s3 := same_new (o := HO.tup [V.str "\n", V.str "\n"]) ny2
    have s4 := same_new (o := HO.lst [V.ref y0, V.ref y1, V.ref y2]) nyl
    have fy0 : (upd (upd (upd (upd H7 y0 (.tup [V.str ⟨#[c0]⟩, V.str ⟨#[d0]⟩])) y1 (.tup [V.str "\t", V.str "\t"])) y2 (.tup [V.str "\n", V.str "\n"])) yl (.lst [V.ref y0, V.ref y1, V.ref y2])) y0 = some (.tup [V.str ⟨#[c0]⟩, V.str ⟨#[d0]⟩]) := (s4 _ _ (s3 _ _ (s2 _ _ upd_same)))
    have fy1 : (upd (upd (upd (upd H7 y0 (.tup [V.str ⟨#[c0]⟩, V.str ⟨#[d0]⟩])) y1 (.tup [V.str "\t", V.str "\t"])) y2 (.tup [V.str "\n", V.str "\n"])) yl (.lst [V.ref y0, V.ref y1, V.ref y2])) y1 = some (.tup [V.str "\t", V.str "\t"]) := (s4 _ _ (s3 _ _ upd_same))
    have fy2 : (upd (upd (upd (upd H7 y0 (.tup [V.str ⟨#[c0]⟩, V.str ⟨#[d0]⟩])) y1 (.tup [V.str "\t", V.str "\t"])) y2 (.tup [V.str "\n", V.str "\n"])) yl (.lst [V.ref y0, V.ref y1, V.ref y2])) y2 = some (.tup [V.str "\n", V.str "\n"]) := (s4 _ _ upd_same)
    have fyl : (upd (upd (upd (upd H7 y0 (.tup [V.str ⟨#[c0]⟩, V.str ⟨#[d0]⟩])) y1 (.tup [V.str "\t", V.str "\t"])) y2 (.tup [V.str "\n", V.str "\n"])) yl (.lst [V.ref y0, V.ref y1, V.ref y2])) yl = some (.lst [V.ref y0, V.ref y1, V.ref y2]) := upd_same
    have sS := (same_trans (same_trans (same_trans s1 s2) s3) s4)
    clear s1 s2 s3 s4
    generalize upd (upd (upd (upd H7 y0 (.tup [V.str ⟨#[c0]⟩, V.str ⟨#[d0]⟩])) y1 (.tup [V.str "\t", V.str "\t"])) y2 (.tup [V.str "\n", V.str "\n"])) yl (.lst [V.ref y0, V.ref y1, V.ref y2]) = H8 at sS fy0 fy1 fy2 fyl ⊢
    obtain ⟨sg, hv2, SG⟩ : ∃ (sg : Addr), ([V.ref y0, V.ref y1, V.ref y2] : List V)[wy]? = some (.ref sg) ∧ SqT K H8 sg [.str (sgW wy ⟨#[c0]⟩ ⟨#[d0]⟩).1, .str (sgW wy ⟨#[c0]⟩ ⟨#[d0]⟩).2] := by
      have w3 : wy = 0 ∨ wy = 1 ∨ wy = 2 := by omega
      rcases w3 with e | e | e <;> rw [e]
      · exact ⟨y0, rfl, SqT.of fy0⟩
      · exact ⟨y1, rfl, SqT.of fy1⟩
      · exact ⟨y2, rfl, SqT.of fy2⟩
    refine ⟨_, rfl, yl, _, _, .ref sg, rfl, rfl, SqL.of fyl, atI_nat hv2, ?_⟩
    have x78 := same_ex sS t7
    have la1 := tabS_kn (KN.same (cs := cs) sS) (A := fun _ => False) (fun c z => z.elim) n1 la1
    have la2 := tabS_kn (KN.same (cs := cs) sS) (A := fun _ => False) (fun c z => z.elim) n2 la2
    have hB8 := box_exT hB7 x78
    have PA8 := PA.ex x78
    have t8 := x78.tab
    clear x78 sS fy0 fy1 fy2 fyl hB7 t7 hv2 PA
    have ro : ∀ k, k ≤ 5 → k ≤ (pageT (pgW wy)).length → RoomOk (pageT (pgW wy)) k (sgW wy ⟨#[c0]⟩ ⟨#[d0]⟩).1 (sgW wy ⟨#[c0]⟩ ⟨#[d0]⟩).2 := fun k h1 h2 => room_W hw h1 h2 hc0 hd0
    have ro0 := ro 0 (Nat.zero_le _) (Nat.zero_le _)
    have pgw := pg_W hw
    have en : V.int (2 + (m : Int)) = V.int ((2 + m : Nat) : Int) := by congr 1
    generalize hxx : (sgW wy ⟨#[c0]⟩ ⟨#[d0]⟩).1 = x at SG ro ro0
    generalize hyy : (sgW wy ⟨#[c0]⟩ ⟨#[d0]⟩).2 = y at SG ro ro0
    -- the first table
    refine ⟨_, rfl, by show 2 ≤ sizeLine; decide, fun st nst => ⟨_, rfl, fun tb0 dx ntb ndx nxt => ?_⟩⟩
    have s1 := same_new (o := .tup [V.int 1, V.int 0]) nst
    have s2 : Same (upd H8 st (.tup [V.int 1, V.int 0])) (upd (upd (upd H8 st (.tup [V.int 1, V.int 0])) dx (.own tb0)) tb0 (.ins B dx [])) := fun c u h => by rw [upd_ne (ne_of_none h ntb), upd_ne (ne_of_none h ndx)]; exact h
    have s12 := same_trans s1 s2
    have hob : upd (upd (upd H8 st (.tup [V.int 1, V.int 0])) dx (.own tb0)) tb0 (.ins B dx []) tb0 = some (.ins B dx []) := upd_same
    have hst := s2 _ _ (upd_same (H := H8) (a := st) (o := .tup [V.int 1, V.int 0]))
    generalize upd (upd (upd H8 st (.tup [V.int 1, V.int 0])) dx (.own tb0)) tb0 (.ins B dx []) = H9 at s12 hob hst ⊢
    clear s1 s2
    have x89 := same_ex s12 t8
    refine ⟨tb0, pg, st, dx, as, pgW wy, 1, 0, 2 + m, by show [V.ref tb0, V.ref pg, V.ref st, V.int (2 + (m : Int))] = _; rw [en], x89.tab, hob, PA8.ex x89, pgw, ⟨SqT.of hst, by decide, by decide, by decide, by decide⟩, by omega, by omega, fun a0 H10 kp ow0 t10 old10 hD10 => ⟨rfl, ?_⟩⟩
    clear old10
    have hB9 := box_exT hB8 x89
    have ob0 := own_box hB9 hob ow0
    have kn10 : KN cs (fun c => c = tb0) H9 H10 := fun c u h n q => kp c u h n q
    have m0 : Mob H9 (fun c => c = tb0) := fun c hc => .inr ⟨_, _, _, hc ▸ hob⟩
    have hB10 := box_kn hB9 kn10 (fun e => (ob0 tb0 (.inl rfl)).1 e.symm) (fun e => (ob0 tb0 (.inl rfl)).2 e.symm)
    have la1 := tabS_kn kn10 m0 n1 (tabS_kn (KN.same (cs := cs) s12) (A := fun _ => False) (fun c z => z.elim) n1 la1)
    have la2 := tabS_kn kn10 m0 n2 (tabS_kn (KN.same (cs := cs) s12) (A := fun _ => False) (fun c z => z.elim) n2 la2)
    have SG10 := sqT_km kn10.w m0 (x89.sqT SG)
    have PA10 := page_kn1 kn10.w hob (PA8.ex x89)
    clear kp kn10 m0 ow0 hob hst s12 x89 hB9 hB8 SG PA8 nst ntb ndx nxt t8
    -- the second one
    refine ⟨_, rfl, by show 2 ≤ sizeLine; decide, fun st2 nst => ⟨_, rfl, fun tb1 dx2 ntb ndx nxt => ?_⟩⟩
    have s1 := same_new (o := .tup [V.int 1, V.int 0]) nst
    have s2 : Same (upd H10 st2 (.tup [V.int 1, V.int 0])) (upd (upd (upd H10 st2 (.tup [V.int 1, V.int 0])) dx2 (.own tb1)) tb1 (.ins B dx2 [])) := fun c u h => by rw [upd_ne (ne_of_none h ntb), upd_ne (ne_of_none h ndx)]; exact h
    have s12 := same_trans s1 s2
    have hob : upd (upd (upd H10 st2 (.tup [V.int 1, V.int 0])) dx2 (.own tb1)) tb1 (.ins B dx2 []) tb1 = some (.ins B dx2 []) := upd_same
    have hst := s2 _ _ (upd_same (H := H10) (a := st2) (o := .tup [V.int 1, V.int 0]))
    have ntb10 : H10 tb1 = none := same_old s1 ntb
    generalize upd (upd (upd H10 st2 (.tup [V.int 1, V.int 0])) dx2 (.own tb1)) tb1 (.ins B dx2 []) = H11 at s12 hob hst ⊢
    clear s1 s2
    have x1 := same_ex s12 t10
    refine ⟨tb1, pg, st2, dx2, as, pgW wy, 1, 0, 2 + m, by show [V.ref tb1, V.ref pg, V.ref st2, V.int (2 + (m : Int))] = _; rw [en], x1.tab, hob, PA10.ex x1, pgw, ⟨SqT.of hst, by decide, by decide, by decide, by decide⟩, by omega, by omega, fun a1 H12 kp ow1 t12 old12 hD12 => ⟨rfl, ?_⟩⟩
    have hB11 := box_exT hB10 x1
    have ob1 := own_box hB11 hob ow1
    have kn12 : KN cs (fun c => c = tb1) H11 H12 := fun c u h n q => kp c u h n q
    have m0 : Mob H11 (fun c => c = tb1) := fun c hc => .inr ⟨_, _, _, hc ▸ hob⟩
    have hB12 := box_kn hB11 kn12 (fun e => (ob1 tb1 (.inl rfl)).1 e.symm) (fun e => (ob1 tb1 (.inl rfl)).2 e.symm)
    have la1 := tabS_kn kn12 m0 n1 (tabS_kn (KN.same (cs := cs) s12) (A := fun _ => False) (fun c z => z.elim) n1 la1)
    have la2 := tabS_kn kn12 m0 n2 (tabS_kn (KN.same (cs := cs) s12) (A := fun _ => False) (fun c z => z.elim) n2 la2)
    have SG12 := sqT_km kn12.w m0 (x1.sqT SG10)
    have o0 : ∀ c, ownT tb0 a0 c → H11 c ≠ none ∧ c ≠ tb1 := fun c hc => by
      have h10 := mob_some hD10.mob hc
      refine ⟨fun e => h10 (same_old s12 e), fun e => h10 (e ▸ ntb10)⟩
    have hD0 := (hD10.same s12).km kn12.w m0 fun c hc => (o0 c hc).2
    have d01 : ∀ c, ownT tb0 a0 c → ¬ ownT tb1 a1 c := fun c hc z => by
      rcases ow1 c z with e | e
      · exact (o0 c hc).2 e
      · exact (o0 c hc).1 e
    clear kp kn12 m0 ow1 hob hst s12 x1 hB11 hB10 SG10 PA10 nst ntb ndx nxt t10 hD10 o0 ntb10 old12
    refine ⟨by show 2 ≤ sizeLine; decide, fun tl ntl => ?_⟩
    have s13 := same_new (o := .lst [V.ref tb0, V.ref tb1]) ntl
    have htl : upd H12 tl (.lst [V.ref tb0, V.ref tb1]) tl = some (.lst [V.ref tb0, V.ref tb1]) := upd_same
    generalize upd H12 tl (.lst [V.ref tb0, V.ref tb1]) = H13 at s13 htl ⊢
    have x13 := same_ex s13 t12
    rw [start_G] at hD0 hD12
    have nbl := new_ne hB12 ntl
    have o13 : S2 K cs B p1 p2 b l sg x y tl tb0 tb1 a0 (GS (pageT (pgW wy)) 0 [] [] (spG 0 m) (usG [] [] m)) a1 (GS (pageT (pgW wy)) 0 [] [] (spG 0 m) (usG [] [] m)) H13 :=
      ⟨box_exT hB12 x13, hD0.same s13, hD12.same s13, x13.tab, tabS_kn (KN.same (cs := cs) s13) (A := fun _ => False) (fun c z => z.elim) n1 la1, tabS_kn (KN.same (cs := cs) s13) (A := fun _ => False) (fun c z => z.elim) n2 la2, x13.sqT SG12, htl, fun c hc => ⟨d01 c hc, (ob0 c hc).1, (ob0 c hc).2, fun e => mob_some hD0.mob hc (e ▸ ntl)⟩, fun c hc => ⟨(ob1 c hc).1, (ob1 c hc).2, fun e => mob_some hD12.mob hc (e ▸ ntl)⟩, nbl⟩
    clear s13 x13 htl hD0 hD12 hB12 SG12 la1 la2 ob0 ob1 d01 nbl ntl t12
    generalize pageT (pgW wy) = z at o13 ro ro0
    refine ⟨_, rfl, tl, rfl, ⟨_, SqL.of o13.tls⟩, for_list (xs := [V.ref tb0, V.ref tb1]) (fun j σ H' => ∃ (c10 c11 : Option V) (a0 a1 : TA) (k0 k1 : Nat), σ = [some (.ref a), some (.ref b), some (.int (0 + (i : Nat))), some (.int (wy : Nat)), some (.int (2 + (m : Int))), some (.str ⟨#[c0]⟩), some (.str ⟨#[d0]⟩), some (.ref pg), some (.ref sg), some (.ref tl), c10, c11] ∧ (j ≤ 0 → k0 = 0) ∧ (j ≤ 1 → k1 = 0) ∧ k0 ≤ 5 ∧ k1 ≤ 5 ∧ k0 ≤ z.length ∧ k1 ≤ z.length ∧ S2 K cs B p1 p2 b l sg x y tl tb0 tb1 a0 (GS z 0 [] [] (spG k0 m) (usG [] [] m)) a1 (GS z 0 [] [] (spG k1 m) (usG [] [] m)) H')
      ⟨_, _, a0, a1, 0, 0, rfl, fun _ => rfl, fun _ => rfl, Nat.zero_le _, Nat.zero_le _, Nat.zero_le _, Nat.zero_le _, o13⟩ (fun j σ H' _ x => by obtain ⟨_, _, _, _, _, _, _, _, _, _, _, _, _, o⟩ := x; exact SqL.of o.tls) ?_ ?_⟩
    · clear o13
      rintro j v σ H14 hv ⟨c10, c11, a0, a1, k0, k1, rfl, hk0, hk1, e0, e1, f0, f1, o⟩
      match j, hv, hk0, hk1 with
      | 0, hv, hk0, hk1 =>
        cases hv
        have hk : k0 = 0 := hk0 (Nat.le_refl _)
        refine ⟨_, rfl, b, l, 6, rfl, o.box, by decide, by decide, fun n H15 n0 n1' hB15 x15 => ⟨n, rfl, by omega, by omega, for_range (n := n.toNat) (fun q σ H' => ∃ (c11 : Option V) (aa : TA), σ = [some (.ref a), some (.ref b), some (.int (0 + (i : Nat))), some (.int (wy : Nat)), some (.int (2 + (m : Int))), some (.str ⟨#[c0]⟩), some (.str ⟨#[d0]⟩), some (.ref pg), some (.ref sg), some (.ref tl), some (.ref tb0), c11] ∧ S2 K cs B p1 p2 b l sg x y tl tb0 tb1 aa (GS z 0 [] [] (spG (min q z.length) m) (usG [] [] m)) a1 (GS z 0 [] [] (spG k1 m) (usG [] [] m)) H') ⟨_, a0, rfl, by have := o.draw n1 n2 hB15 x15; rw [hk] at this; rw [Nat.zero_min]; exact this⟩ ?_ ?_⟩⟩
        · rintro q σ H16 hq ⟨c11, aa, rfl, o⟩
          have hz : min q z.length ≤ z.length := Nat.min_le_right _ _
          obtain ⟨g, u⟩ := spG_ok (m := m) ro0.sg ro0.zl hm hz
          obtain ⟨g', u'⟩ := spG_ok1 (m := m) (k := min q z.length) (k' := min (min q z.length + 1) z.length) ro0.sg ro0.zl hm hz (Nat.min_le_right _ _)
          have l2 : 1 < (spG (min q z.length) m).length := by unfold spG; show 1 < (List.replicate m 0).length + 1 + 1; omega
          refine ⟨_, rfl, tb0, aa.dx, _, rfl, o.t0.ob, rfl, tone_go (o.right0 (h := 0) n1 n2 g u rfl hz (by omega) fun v ab H17 o17 => ?_)⟩
          refine ⟨_, rfl, tb0, ab.dx, _, rfl, o17.t0.ob, rfl, tone_go (o17.right0 (h := 1) (k := min q z.length) n1 n2 g' u' rfl hz (by show 1 < (spG (min q z.length) m).length; exact l2) fun v ac H18 o18 => ?_)⟩
          refine ⟨_, ac, rfl, ?_⟩
          have ek : min (min q z.length + 1) z.length = min (q + 1) z.length := by omega
          have o18 : S2 K cs B p1 p2 b l sg x y tl tb0 tb1 ac (GS z 0 [] [] (spG (min (min q z.length + 1) z.length) m) (usG [] [] m)) a1 (GS z 0 [] [] (spG k1 m) (usG [] [] m)) H18 := o18
          rw [ek] at o18
          exact o18
        · rintro σ H16 ⟨c11, aa, rfl, o⟩
          exact ⟨_, _, aa, a1, min n.toNat z.length, k1, rfl, (fun h => absurd h (by decide)), (fun _ => hk1 (Nat.zero_le _)), by omega, e1, Nat.min_le_right _ _, f1, o⟩
      | 1, hv, hk0, hk1 =>
        cases hv
        have hk : k1 = 0 := hk1 (Nat.le_refl _)
        refine ⟨_, rfl, b, l, 6, rfl, o.box, by decide, by decide, fun n H15 n0 n1' hB15 x15 => ⟨n, rfl, by omega, by omega, for_range (n := n.toNat) (fun q σ H' => ∃ (c11 : Option V) (aa : TA), σ = [some (.ref a), some (.ref b), some (.int (0 + (i : Nat))), some (.int (wy : Nat)), some (.int (2 + (m : Int))), some (.str ⟨#[c0]⟩), some (.str ⟨#[d0]⟩), some (.ref pg), some (.ref sg), some (.ref tl), some (.ref tb1), c11] ∧ S2 K cs B p1 p2 b l sg x y tl tb0 tb1 a0 (GS z 0 [] [] (spG k0 m) (usG [] [] m)) aa (GS z 0 [] [] (spG (min q z.length) m) (usG [] [] m)) H') ⟨_, a1, rfl, by have := o.draw n1 n2 hB15 x15; rw [hk] at this; rw [Nat.zero_min]; exact this⟩ ?_ ?_⟩⟩
        · rintro q σ H16 hq ⟨c11, aa, rfl, o⟩
          have hz : min q z.length ≤ z.length := Nat.min_le_right _ _
          obtain ⟨g, u⟩ := spG_ok (m := m) ro0.sg ro0.zl hm hz
          obtain ⟨g', u'⟩ := spG_ok1 (m := m) (k := min q z.length) (k' := min (min q z.length + 1) z.length) ro0.sg ro0.zl hm hz (Nat.min_le_right _ _)
          have l2 : 1 < (spG (min q z.length) m).length := by unfold spG; show 1 < (List.replicate m 0).length + 1 + 1; omega
          refine ⟨_, rfl, tb1, aa.dx, _, rfl, o.t1.ob, rfl, tone_go (o.right1 (h := 0) n1 n2 g u rfl hz (by omega) fun v ab H17 o17 => ?_)⟩
          refine ⟨_, rfl, tb1, ab.dx, _, rfl, o17.t1.ob, rfl, tone_go (o17.right1 (h := 1) (k := min q z.length) n1 n2 g' u' rfl hz (by show 1 < (spG (min q z.length) m).length; exact l2) fun v ac H18 o18 => ?_)⟩
          refine ⟨_, ac, rfl, ?_⟩
          have ek : min (min q z.length + 1) z.length = min (q + 1) z.length := by omega
          have o18 : S2 K cs B p1 p2 b l sg x y tl tb0 tb1 a0 (GS z 0 [] [] (spG k0 m) (usG [] [] m)) ac (GS z 0 [] [] (spG (min (min q z.length + 1) z.length) m) (usG [] [] m)) H18 := o18
          rw [ek] at o18
          exact o18
        · rintro σ H16 ⟨c11, aa, rfl, o⟩
          exact ⟨_, _, a0, aa, k0, min n.toNat z.length, rfl, (fun h => absurd h (by decide)), (fun h => absurd h (by decide)), e0, by omega, f0, Nat.min_le_right _ _, o⟩
      | j + 2, hv, _, _ => simp at hv
    · clear o13
      rintro σ H14 ⟨c10, c11, a0, a1, k0, k1, rfl, _, _, e0, e1, f0, f1, o⟩
      have ms0 := o.ms0 n1 n2 nn
      rw [GS_k (z := z) (k := 0) (k' := k0) (sp := spG k0 m) (us := usG [] [] m) (Nat.zero_le _) f0] at ms0
      refine ⟨_, rfl, _, rfl, tl, _, 0, .ref tb0, rfl, rfl, SqL.of o.tls, atI_nat (j := 0) rfl, _, rfl, b, l, tb0, sg, x, y, z, a0, k0, m, rfl, ro k0 e0 f0, hm, ms0, fun H' kn bx t h1 h2 old => ⟨true, rfl, iteF ?_⟩⟩
      obtain ⟨ms1, htl⟩ := o.ms1 n1 n2 nn kn bx t h1 h2
      rw [GS_k (z := z) (k := 0) (k' := k1) (sp := spG k1 m) (us := usG [] [] m) (Nat.zero_le _) f1] at ms1
      refine ⟨_, rfl, _, rfl, tl, _, 1, .ref tb1, rfl, rfl, SqL.of htl, atI_nat (j := 1) rfl, _, rfl, b, l, tb1, sg, x, y, z, a1, k1, m, rfl, ro k1 e1 f1, hm, ms1, fun H'' kn2 bx2 t2 h12 h22 old2 => ⟨true, rfl, iteF ?_⟩⟩
      exact ⟨_, _, _, _, _, _, _, _, _, _, rfl, bx2, t2, h12, h22⟩
end
end TG

namespace TG
open PySem PySem.Spec PyProof.Rows L2
/-! ### the head -/
def dd (i : Nat) (x : Str) : He.DefD := ⟨(x, none), x, x, defArgs (top i), defBody (top i), defScope (top i), [], []⟩
def dm (c i : Nat) (C m : Str) : He.DefD := ⟨(C, some m), m, C ++ "." ++ m, defArgs (mth c i), defBody (mth c i), defScope (mth c i), [], []⟩
def fnL : List He.DefD := [dd 20 "is_whole", dd 21 "is_sign", dd 22 "is_text_of_signs", dd 23 "is_filled", dd 24 "is_row", dd 25 "first_misfit", dd 26 "check_page", dd 27 "check_style", dd 29 "written", dd 30 "rows_of", dd 34 "check_mark", dd 35 "marks_there", dd 36 "those_there", dd 37 "text_of", dd 38 "first_there", dd 40 "_law_begun", dd 41 "_law_take", dd 42 "_law_alike", dd 43 "_law_sign", dd 44 "_law_told", dd 45 "_law_refused", dd 46 "_law_pressed_again", dd 47 "_law_rubbed_back", dd 48 "law", dm 33 0 "Table" "__init__", dm 33 1 "Table" "press", dm 33 2 "Table" "rub", dm 33 3 "Table" "back", dm 33 4 "Table" "again", dm 33 6 "Table" "right", dm 33 7 "Table" "at", dm 33 8 "Table" "page", dm 33 10 "Table" "told", dm 33 11 "Table" "check_hand", dm 33 12 "Table" "present", dm 33 13 "Table" "near", dm 33 14 "Table" "go", dm 33 15 "Table" "turn", dm 33 16 "Table" "settle"]
def faL : List He.Fa := [.glo "is_whole", .glo "is_sign", .glo "is_text_of_signs", .glo "is_filled", .glo "is_row", .glo "first_misfit", .glo "check_page", .glo "check_style", .glo "written", .glo "rows_of", .glo "check_mark", .glo "marks_there", .glo "those_there", .glo "text_of", .glo "first_there", .glo "_law_begun", .glo "_law_take", .glo "_law_alike", .glo "_law_sign", .glo "_law_told", .glo "_law_refused", .glo "_law_pressed_again", .glo "_law_rubbed_back", .glo "law", .int "BLANK" 32, .int "TILDE" 126, .int "PERCENT" 37, .int "MOST_ROWS" 30, .int "MOST_CELLS" 6, .int "MOST_SIGNS" 10, .int "MOST_GAP" 4, .int "MOST_LEAST" 12, .free "isinstance", .free "len", .free "range", .free "max", .free "min", .free "all", .free "str", .free "int", .free "bool", .free "list", .free "tuple", .free "enumerate", .free "ord", .glo "Table", .glo "GrowError", .glo "BadCell", .glo "TooMuch", .cls "Table", .mkr "Table", .exc "BadCell", .exm "BadCell" "GrowError" true, .exc "TooMuch", .exm "TooMuch" "GrowError" true, .exm "TooMuch" "TooMuch" true, .str "TAB" "\t", .str "LINE_END" "\n", .int "MOST_HANDS" 4, .noat "Table" "style", .noat "Table" "signs", .noat "Table" "order", .noat "Table" "there", .noat "Table" "deeds", .noat "Table" "spots", .noat "Table" "undone", .meth "Table" "press", .meth "Table" "rub", .meth "Table" "back", .meth "Table" "again", .meth "Table" "right", .meth "Table" "at", .meth "Table" "page", .meth "Table" "told", .meth "Table" "check_hand", .meth "Table" "present", .meth "Table" "near", .meth "Table" "go", .meth "Table" "turn", .meth "Table" "settle"]
def tfB : List He.Defn := [("is_text_of_signs", none), ("is_row", none)]
def lmL : List He.Defn := [("_law_pressed_again", none), ("_law_rubbed_back", none)]
def tfL : List He.Defn := tfB ++ lmL
def exL : PySem.W.Frag → Bool := fun K => (lmL.all fun r => (tfB.all fun q => decide ((He.cT K q).2 ≠ (He.cT K r).2)) && (lmL.all fun q => decide (q = r) || decide ((He.cT K q).2 ≠ (He.cT K r).2)))
def constB (K : PySem.W.Frag) : Bool := true
def exC (K : PySem.W.Frag) : Bool := exL K && constB K
theorem subL {K : PySem.W.Frag} {q : Addr × Addr} (h : q ∈ tfB.map (He.cT K)) : q ∈ tfL.map (He.cT K) := by
  unfold tfL
  rw [List.map_append]
  exact List.mem_append_left _ h
theorem memL {K : PySem.W.Frag} {r : He.Defn} (h : r ∈ lmL) : He.cT K r ∈ tfL.map (He.cT K) := by
  unfold tfL
  rw [List.map_append]
  exact List.mem_append_right _ (List.mem_map_of_mem h)
theorem ne_of_ex {K : PySem.W.Frag} (h : exL K = true) {r : He.Defn} (hr : r ∈ lmL) : ApartT (tfB.map (He.cT K)) (He.cT K r).2 := fun q hq => by
  obtain ⟨d, hd, rfl⟩ := List.mem_map.mp hq
  have z := (Bool.and_eq_true_iff.mp (List.all_eq_true.mp h r hr)).1
  have z := List.all_eq_true.mp z d hd
  simpa using z
theorem ne_of_ex2 {K : PySem.W.Frag} (h : exL K = true) {r q : He.Defn} (hr : r ∈ lmL) (hq : q ∈ lmL) (n : q ≠ r) : (He.cT K q).2 ≠ (He.cT K r).2 := by
  have z := (Bool.and_eq_true_iff.mp (List.all_eq_true.mp h r hr)).2
  have z := List.all_eq_true.mp z q hq
  simpa [n] using z
theorem fun_of {K : PySem.W.Frag} {x : Str} {st : Stmt} {f : Addr} {fd : FuncData} (F : FunD K x x (defArgs st) (defBody st) (defScope st) [] [] f fd) : Fun K x x st f fd := by
  obtain ⟨⟨oc, od, dV, kV, doc, pm, an, cdv, ct, osl, e, lk, hcd, hd, _⟩, kp⟩ := F
  rcases hd with ⟨_, hd⟩ | ⟨hd, _⟩
  · subst hd
    exact ⟨⟨oc, od, kV, doc, pm, an, cdv, ct, osl, e, lk, hcd⟩, kp⟩
  · exact absurd rfl hd
/-- a def of the top, by its name -/
structure At (K : PySem.W.Frag) (mg : Str → Option Value) (x : Str) (st : Stmt) (fd : FuncData) : Prop where
  mg_ : mg x = some (.ref (He.ga K x))
  fn : Fun K x x st (He.ga K x) fd
theorem At.kp {K : PySem.W.Frag} {mg : Str → Option Value} {x : Str} {st : Stmt} {fd : FuncData} (a : At K mg x st fd) : PySem.W.keepIn K (.ref (He.ga K x)) = true := a.fn.kp
theorem fun_ofm {K : PySem.W.Frag} {x q : Str} {st : Stmt} {f : Addr} {fd : FuncData} (F : FunD K x q (defArgs st) (defBody st) (defScope st) [] [] f fd) : Fun K x q st f fd := by
  obtain ⟨⟨oc, od, dV, kV, doc, pm, an, cdv, ct, osl, e, lk, hcd, hd, _⟩, kp⟩ := F
  rcases hd with ⟨_, hd⟩ | ⟨hd, _⟩
  · subst hd
    exact ⟨⟨oc, od, kV, doc, pm, an, cdv, ct, osl, e, lk, hcd⟩, kp⟩
  · exact absurd rfl hd
theorem atm_of {fa : List He.Fa} {fn : List He.DefD} {K : PySem.W.Frag} (c : He.SaysD fa fn K) {k i : Nat} {C m : Str} (hd : dm k i C m ∈ fn) : ∃ fd, Fun K m (C ++ "." ++ m) (mth k i) (He.ma K (He.ga K C) m) fd := by
  obtain ⟨fd, F⟩ := c.defs hd
  exact ⟨fd, fun_ofm F⟩
theorem at_of {fa : List He.Fa} {fn : List He.DefD} {K : PySem.W.Frag} {h : Heap} {mg : Str → Option Value} (X : K.In h) (G : h.Ns mainGlobals mg) (c : He.SaysD fa fn K) {i : Nat} {x : Str} (hd : dd i x ∈ fn) (hf : He.Fa.glo x ∈ fa) : ∃ fd, At K mg x (top i) fd := by
  obtain ⟨fd, F⟩ := c.defs hd
  exact ⟨fd, He.glo_ok X G (c.facts hf), fun_of F⟩
theorem code_of {K : PySem.W.Frag} {mg : Str → Option Value} {x : Str} {st : Stmt} {fd : FuncData} (a : At K mg x st fd) : fd.code = .ref (He.cT K (x, none)).1 := by
  obtain ⟨oc, od, kV, doc, pm, an, cdv, ct, osl, e, lk, hcd⟩ := a.fn.ex
  obtain ⟨c, hc⟩ := He.codeIn_ref hcd
  have e2 : fd.code = .ref c := by rw [e, ← hc]
  have e3 : He.codeOf K (x, none) = c := He.codeOf_eq (p := (x, none)) lk e2
  show fd.code = .ref (He.codeOf K (x, none))
  rw [e3, e2]
theorem tab_conv {base : Heap} {mg : Str → Option Value} {c P : Addr} (t : LamX.TabB base mg c P) : GxR.TabB base mg c P := ⟨t.code, t.bm, t.gP⟩

theorem txt_of {K : PySem.W.Frag} {h : Heap} {mg : Str → Option Value} (X : K.In h) (G : h.Ns mainGlobals mg) (c : He.SaysD faL fnL K) : Txt mg := by
  constructor
  all_goals exact He.free_ok X G (c.facts (by simp [faL]))
theorem consts_of {K : PySem.W.Frag} {h : Heap} {mg : Str → Option Value} (X : K.In h) (G : h.Ns mainGlobals mg) (c : He.SaysD faL fnL K) : Consts mg := by
  constructor
  all_goals exact He.int_ok X G (c.facts (by simp [faL]))
theorem triples_nil : TriplesOk (#[] : Array Value).toList := trivial
theorem facts {w : World} {K : PySem.W.Frag} {h : Heap} {mg : Str → Option Value} {f : Addr} (X : K.In h) (G : h.Ns mainGlobals mg) (hfa : mg ("law" : Str) = some (.ref f)) (c : He.SaysX faL fnL [] tfL exC w h K) :
    LamX.LawAtS PySem.Challenge.rw_tabgrow_k38_whole_refused_and_let_later w K CX0 18 63 "_law_script" mg f h := by
  have cd := c.t.d
  have T := txt_of X G cd
  have N := consts_of X G cd
  obtain ⟨me, mf⟩ := He.ba c.more
  have ne0 := ne_of_ex me (r := ("_law_pressed_again", none)) (by simp [lmL])
  have ne := ne_of_ex me (r := ("_law_rubbed_back", none)) (by simp [lmL])
  have nn01 := ne_of_ex2 me (r := ("_law_pressed_again", none)) (q := ("_law_rubbed_back", none)) (by simp [lmL]) (by simp [lmL]) (by decide)
  have nn10 := ne_of_ex2 me (r := ("_law_rubbed_back", none)) (q := ("_law_pressed_again", none)) (by simp [lmL]) (by simp [lmL]) (by decide)
  obtain ⟨d20, a20⟩ := at_of X G cd (i := 20) (x := "is_whole") (by simp [fnL]) (by simp [faL])
  have b20 := a20.fn.binds (ps := ["value", "low", "high"]) fun _ _ _ _ _ _ us hl => match us, hl with | [_, _, _], _ => rfl
  obtain ⟨d21, a21⟩ := at_of X G cd (i := 21) (x := "is_sign") (by simp [fnL]) (by simp [faL])
  have b21 := a21.fn.binds (ps := ["sign"]) fun _ _ _ _ _ _ us hl => match us, hl with | [_], _ => rfl
  obtain ⟨d22, a22⟩ := at_of X G cd (i := 22) (x := "is_text_of_signs") (by simp [fnL]) (by simp [faL])
  have b22 := a22.fn.binds (ps := ["value", "most"]) fun _ _ _ _ _ _ us hl => match us, hl with | [_, _], _ => rfl
  obtain ⟨d23, a23⟩ := at_of X G cd (i := 23) (x := "is_filled") (by simp [fnL]) (by simp [faL])
  have b23 := a23.fn.binds (ps := ["value", "most"]) fun _ _ _ _ _ _ us hl => match us, hl with | [_, _], _ => rfl
  obtain ⟨d24, a24⟩ := at_of X G cd (i := 24) (x := "is_row") (by simp [fnL]) (by simp [faL])
  have b24 := a24.fn.binds (ps := ["value"]) fun _ _ _ _ _ _ us hl => match us, hl with | [_], _ => rfl
  obtain ⟨d25, a25⟩ := at_of X G cd (i := 25) (x := "first_misfit") (by simp [fnL]) (by simp [faL])
  have b25 := a25.fn.binds (ps := ["rows"]) fun _ _ _ _ _ _ us hl => match us, hl with | [_], _ => rfl
  obtain ⟨d26, a26⟩ := at_of X G cd (i := 26) (x := "check_page") (by simp [fnL]) (by simp [faL])
  have b26 := a26.fn.binds (ps := ["page"]) fun _ _ _ _ _ _ us hl => match us, hl with | [_], _ => rfl
  obtain ⟨d27, a27⟩ := at_of X G cd (i := 27) (x := "check_style") (by simp [fnL]) (by simp [faL])
  have b27 := a27.fn.binds (ps := ["style"]) fun _ _ _ _ _ _ us hl => match us, hl with | [_], _ => rfl
  obtain ⟨d29, a29⟩ := at_of X G cd (i := 29) (x := "written") (by simp [fnL]) (by simp [faL])
  have b29 := a29.fn.binds (ps := ["page"]) fun _ _ _ _ _ _ us hl => match us, hl with | [_], _ => rfl
  obtain ⟨d30, a30⟩ := at_of X G cd (i := 30) (x := "rows_of") (by simp [fnL]) (by simp [faL])
  have b30 := a30.fn.binds (ps := ["text"]) fun _ _ _ _ _ _ us hl => match us, hl with | [_], _ => rfl
  obtain ⟨d34, a34⟩ := at_of X G cd (i := 34) (x := "check_mark") (by simp [fnL]) (by simp [faL])
  have b34 := a34.fn.binds (ps := ["sign"]) fun _ _ _ _ _ _ us hl => match us, hl with | [_], _ => rfl
  obtain ⟨d35, a35⟩ := at_of X G cd (i := 35) (x := "marks_there") (by simp [fnL]) (by simp [faL])
  have b35 := a35.fn.binds (ps := ["many", "deeds"]) fun _ _ _ _ _ _ us hl => match us, hl with | [_, _], _ => rfl
  obtain ⟨d36, a36⟩ := at_of X G cd (i := 36) (x := "those_there") (by simp [fnL]) (by simp [faL])
  have b36 := a36.fn.binds (ps := ["order", "there"]) fun _ _ _ _ _ _ us hl => match us, hl with | [_, _], _ => rfl
  obtain ⟨d37, a37⟩ := at_of X G cd (i := 37) (x := "text_of") (by simp [fnL]) (by simp [faL])
  have b37 := a37.fn.binds (ps := ["signs", "marks"]) fun _ _ _ _ _ _ us hl => match us, hl with | [_, _], _ => rfl
  obtain ⟨d38, a38⟩ := at_of X G cd (i := 38) (x := "first_there") (by simp [fnL]) (by simp [faL])
  have b38 := a38.fn.binds (ps := ["order", "there", "spot"]) fun _ _ _ _ _ _ us hl => match us, hl with | [_, _, _], _ => rfl
  obtain ⟨d40, a40⟩ := at_of X G cd (i := 40) (x := "_law_begun") (by simp [fnL]) (by simp [faL])
  have b40 := a40.fn.binds (ps := ["_law_script"]) fun _ _ _ _ _ _ us hl => match us, hl with | [_], _ => rfl
  obtain ⟨d41, a41⟩ := at_of X G cd (i := 41) (x := "_law_take") (by simp [fnL]) (by simp [faL])
  have b41 := a41.fn.binds (ps := ["_law_box", "_law_many"]) fun _ _ _ _ _ _ us hl => match us, hl with | [_, _], _ => rfl
  obtain ⟨d42, a42⟩ := at_of X G cd (i := 42) (x := "_law_alike") (by simp [fnL]) (by simp [faL])
  have b42 := a42.fn.binds (ps := ["_law_found", "_law_due"]) fun _ _ _ _ _ _ us hl => match us, hl with | [_, _], _ => rfl
  obtain ⟨d43, a43⟩ := at_of X G cd (i := 43) (x := "_law_sign") (by simp [fnL]) (by simp [faL])
  have b43 := a43.fn.binds (ps := ["_law_box"]) fun _ _ _ _ _ _ us hl => match us, hl with | [_], _ => rfl
  obtain ⟨d44, a44⟩ := at_of X G cd (i := 44) (x := "_law_told") (by simp [fnL]) (by simp [faL])
  have b44 := a44.fn.binds (ps := ["_law_work"]) fun _ _ _ _ _ _ us hl => match us, hl with | [_], _ => rfl
  obtain ⟨d45, a45⟩ := at_of X G cd (i := 45) (x := "_law_refused") (by simp [fnL]) (by simp [faL])
  have b45 := a45.fn.binds (ps := ["_law_box", "_law_table", "_law_work"]) fun _ _ _ _ _ _ us hl => match us, hl with | [_, _, _], _ => rfl
  obtain ⟨d46, a46⟩ := at_of X G cd (i := 46) (x := "_law_pressed_again") (by simp [fnL]) (by simp [faL])
  have b46 := a46.fn.binds (ps := ["_law_box", "_law_table", "_law_signs"]) fun _ _ _ _ _ _ us hl => match us, hl with | [_, _, _], _ => rfl
  obtain ⟨d47, a47⟩ := at_of X G cd (i := 47) (x := "_law_rubbed_back") (by simp [fnL]) (by simp [faL])
  have b47 := a47.fn.binds (ps := ["_law_box", "_law_table", "_law_signs"]) fun _ _ _ _ _ _ us hl => match us, hl with | [_, _, _], _ => rfl
  obtain ⟨d48, a48⟩ := at_of X G cd (i := 48) (x := "law") (by simp [fnL]) (by simp [faL])
  have b48 := a48.fn.binds (ps := ["_law_script"]) fun _ _ _ _ _ _ us hl => match us, hl with | [_], _ => rfl
  have hf : ∀ {x : He.Fa}, x ∈ faL → He.Fa.ok K x = true := fun h => cd.facts h
  have Xc : TabC K (He.ga K "Table") := ⟨He.cls_ok (hf (x := .cls "Table") (by simp [faL])), He.noat_ok (hf (x := .noat "Table" "style") (by simp [faL])), He.noat_ok (hf (x := .noat "Table" "signs") (by simp [faL])), He.noat_ok (hf (x := .noat "Table" "order") (by simp [faL])), He.noat_ok (hf (x := .noat "Table" "there") (by simp [faL])), He.noat_ok (hf (x := .noat "Table" "deeds") (by simp [faL])), He.noat_ok (hf (x := .noat "Table" "spots") (by simp [faL])), He.noat_ok (hf (x := .noat "Table" "undone") (by simp [faL]))⟩
  have eC := He.exc_ok (hf (x := .exc "BadCell") (by simp [faL]))
  have eD := He.exc_ok (hf (x := .exc "TooMuch") (by simp [faL]))
  have ErB : ErrC K mg "BadCell" (He.ga K "BadCell") (He.ga K "GrowError") := ⟨He.glo_ok X G (hf (x := .glo "BadCell") (by simp [faL])), eC.1, eC.2.1, eC.2.2.1, eC.2.2.2, He.exm_ok (hf (x := .exm "BadCell" "GrowError" true) (by simp [faL]))⟩
  have Er : ErrC K mg "TooMuch" (He.ga K "TooMuch") (He.ga K "GrowError") := ⟨He.glo_ok X G (hf (x := .glo "TooMuch") (by simp [faL])), eD.1, eD.2.1, eD.2.2.1, eD.2.2.2, He.exm_ok (hf (x := .exm "TooMuch" "GrowError" true) (by simp [faL]))⟩
  have Es := He.exm_ok (hf (x := .exm "TooMuch" "TooMuch" true) (by simp [faL]))
  have eG := He.glo_ok X G (hf (x := .glo "GrowError") (by simp [faL]))
  have eT : ∃ t, mg "TAB" = some (.str tabS t) := He.str_ok X G (hf (x := .str "TAB" "\t") (by simp [faL]))
  have eL : ∃ t, mg "LINE_END" = some (.str lineS t) := He.str_ok X G (hf (x := .str "LINE_END" "\n") (by simp [faL]))
  have eM : ∃ t, mg "MOST_HANDS" = some (.int 4 t) := He.int_ok X G (hf (x := .int "MOST_HANDS" 4) (by simp [faL]))
  have gT : mg "Table" = some (.ref (He.ga K "Table")) := He.glo_ok X G (hf (x := .glo "Table") (by simp [faL]))
  obtain ⟨d_Table_init, a_Table_init⟩ := atm_of cd (k := 33) (i := 0) (C := "Table") (m := "__init__") (by simp [fnL])
  have b_Table_init := a_Table_init.binds (ps := ["self", "page", "style", "hands"]) fun _ _ _ _ _ _ us hl => match us, hl with | [_, _, _, _], _ => rfl
  have mk_Table : Mk K (He.ga K "Table") (He.ma K (He.ga K "Table") "__init__") := He.mkr_ok (hf (x := .mkr "Table") (by simp [faL]))
  obtain ⟨d_Table_press, a_Table_press⟩ := atm_of cd (k := 33) (i := 1) (C := "Table") (m := "press") (by simp [fnL])
  have b_Table_press := a_Table_press.binds (ps := ["self", "hand", "sign"]) fun _ _ _ _ _ _ us hl => match us, hl with | [_, _, _], _ => rfl
  have m_Table_press : Meth K (He.ga K "Table") "press" (He.ma K (He.ga K "Table") "press") := He.meth_ok (hf (x := .meth "Table" "press") (by simp [faL]))
  obtain ⟨d_Table_rub, a_Table_rub⟩ := atm_of cd (k := 33) (i := 2) (C := "Table") (m := "rub") (by simp [fnL])
  have b_Table_rub := a_Table_rub.binds (ps := ["self", "hand"]) fun _ _ _ _ _ _ us hl => match us, hl with | [_, _], _ => rfl
  have m_Table_rub : Meth K (He.ga K "Table") "rub" (He.ma K (He.ga K "Table") "rub") := He.meth_ok (hf (x := .meth "Table" "rub") (by simp [faL]))
  obtain ⟨d_Table_back, a_Table_back⟩ := atm_of cd (k := 33) (i := 3) (C := "Table") (m := "back") (by simp [fnL])
  have b_Table_back := a_Table_back.binds (ps := ["self", "hand"]) fun _ _ _ _ _ _ us hl => match us, hl with | [_, _], _ => rfl
  have m_Table_back : Meth K (He.ga K "Table") "back" (He.ma K (He.ga K "Table") "back") := He.meth_ok (hf (x := .meth "Table" "back") (by simp [faL]))
  obtain ⟨d_Table_again, a_Table_again⟩ := atm_of cd (k := 33) (i := 4) (C := "Table") (m := "again") (by simp [fnL])
  have b_Table_again := a_Table_again.binds (ps := ["self", "hand"]) fun _ _ _ _ _ _ us hl => match us, hl with | [_, _], _ => rfl
  have m_Table_again : Meth K (He.ga K "Table") "again" (He.ma K (He.ga K "Table") "again") := He.meth_ok (hf (x := .meth "Table" "again") (by simp [faL]))
  obtain ⟨d_Table_right, a_Table_right⟩ := atm_of cd (k := 33) (i := 6) (C := "Table") (m := "right") (by simp [fnL])
  have b_Table_right := a_Table_right.binds (ps := ["self", "hand"]) fun _ _ _ _ _ _ us hl => match us, hl with | [_, _], _ => rfl
  have m_Table_right : Meth K (He.ga K "Table") "right" (He.ma K (He.ga K "Table") "right") := He.meth_ok (hf (x := .meth "Table" "right") (by simp [faL]))
  obtain ⟨d_Table_at, a_Table_at⟩ := atm_of cd (k := 33) (i := 7) (C := "Table") (m := "at") (by simp [fnL])
  have b_Table_at := a_Table_at.binds (ps := ["self", "hand"]) fun _ _ _ _ _ _ us hl => match us, hl with | [_, _], _ => rfl
  have m_Table_at : Meth K (He.ga K "Table") "at" (He.ma K (He.ga K "Table") "at") := He.meth_ok (hf (x := .meth "Table" "at") (by simp [faL]))
  obtain ⟨d_Table_page, a_Table_page⟩ := atm_of cd (k := 33) (i := 8) (C := "Table") (m := "page") (by simp [fnL])
  have b_Table_page := a_Table_page.binds (ps := ["self"]) fun _ _ _ _ _ _ us hl => match us, hl with | [_], _ => rfl
  have m_Table_page : Meth K (He.ga K "Table") "page" (He.ma K (He.ga K "Table") "page") := He.meth_ok (hf (x := .meth "Table" "page") (by simp [faL]))
  obtain ⟨d_Table_told, a_Table_told⟩ := atm_of cd (k := 33) (i := 10) (C := "Table") (m := "told") (by simp [fnL])
  have b_Table_told := a_Table_told.binds (ps := ["self"]) fun _ _ _ _ _ _ us hl => match us, hl with | [_], _ => rfl
  have m_Table_told : Meth K (He.ga K "Table") "told" (He.ma K (He.ga K "Table") "told") := He.meth_ok (hf (x := .meth "Table" "told") (by simp [faL]))
  obtain ⟨d_Table_check_hand, a_Table_check_hand⟩ := atm_of cd (k := 33) (i := 11) (C := "Table") (m := "check_hand") (by simp [fnL])
  have b_Table_check_hand := a_Table_check_hand.binds (ps := ["self", "hand"]) fun _ _ _ _ _ _ us hl => match us, hl with | [_, _], _ => rfl
  have m_Table_check_hand : Meth K (He.ga K "Table") "check_hand" (He.ma K (He.ga K "Table") "check_hand") := He.meth_ok (hf (x := .meth "Table" "check_hand") (by simp [faL]))
  obtain ⟨d_Table_present, a_Table_present⟩ := atm_of cd (k := 33) (i := 12) (C := "Table") (m := "present") (by simp [fnL])
  have b_Table_present := a_Table_present.binds (ps := ["self"]) fun _ _ _ _ _ _ us hl => match us, hl with | [_], _ => rfl
  have m_Table_present : Meth K (He.ga K "Table") "present" (He.ma K (He.ga K "Table") "present") := He.meth_ok (hf (x := .meth "Table" "present") (by simp [faL]))
  obtain ⟨d_Table_near, a_Table_near⟩ := atm_of cd (k := 33) (i := 13) (C := "Table") (m := "near") (by simp [fnL])
  have b_Table_near := a_Table_near.binds (ps := ["self", "hand", "by"]) fun _ _ _ _ _ _ us hl => match us, hl with | [_, _, _], _ => rfl
  have m_Table_near : Meth K (He.ga K "Table") "near" (He.ma K (He.ga K "Table") "near") := He.meth_ok (hf (x := .meth "Table" "near") (by simp [faL]))
  obtain ⟨d_Table_go, a_Table_go⟩ := atm_of cd (k := 33) (i := 14) (C := "Table") (m := "go") (by simp [fnL])
  have b_Table_go := a_Table_go.binds (ps := ["self", "hand", "by"]) fun _ _ _ _ _ _ us hl => match us, hl with | [_, _, _], _ => rfl
  have m_Table_go : Meth K (He.ga K "Table") "go" (He.ma K (He.ga K "Table") "go") := He.meth_ok (hf (x := .meth "Table" "go") (by simp [faL]))
  obtain ⟨d_Table_turn, a_Table_turn⟩ := atm_of cd (k := 33) (i := 15) (C := "Table") (m := "turn") (by simp [fnL])
  have b_Table_turn := a_Table_turn.binds (ps := ["self", "number", "stands"]) fun _ _ _ _ _ _ us hl => match us, hl with | [_, _, _], _ => rfl
  have m_Table_turn : Meth K (He.ga K "Table") "turn" (He.ma K (He.ga K "Table") "turn") := He.meth_ok (hf (x := .meth "Table" "turn") (by simp [faL]))
  obtain ⟨d_Table_settle, a_Table_settle⟩ := atm_of cd (k := 33) (i := 16) (C := "Table") (m := "settle") (by simp [fnL])
  have b_Table_settle := a_Table_settle.binds (ps := ["self", "signs", "order", "deeds"]) fun _ _ _ _ _ _ us hl => match us, hl with | [_, _, _, _], _ => rfl
  have m_Table_settle : Meth K (He.ga K "Table") "settle" (He.ma K (He.ga K "Table") "settle") := He.meth_ok (hf (x := .meth "Table" "settle") (by simp [faL]))
  have e := hfa.symm.trans a48.mg_
  cases e
  refine ⟨d48, tfL.map (He.cT K), spLaw K (tfB.map (He.cT K)) (He.cT K ("_law_pressed_again", none)).2 (He.cT K ("_law_rubbed_back", none)).2, fun p hp => ?_, fun p hp => ?_, fun p hp => ?_, fun s u => ?_, fun H a ns hl _ hT hS => ⟨a, ns, rfl, fun p hp => ⟨_, hT p (subL hp), triples_nil⟩, LamX.TabS.nil (hT _ (memL (r := ("_law_pressed_again", none)) (by simp [lmL]))), LamX.TabS.nil (hT _ (memL (r := ("_law_rubbed_back", none)) (by simp [lmL]))), hS, hl, fun _ => rfl⟩, fun base KB _ TB => ?_⟩
  · obtain ⟨p', hp', rfl⟩ := List.mem_map.mp hp
    exact c.empty p' hp'
  · obtain ⟨p', hp', rfl⟩ := List.mem_map.mp hp
    exact c.out p' hp'
  · obtain ⟨p', hp', rfl⟩ := List.mem_map.mp hp
    exact PySem.W.codeHd_of_K X (c.hd p' hp')
  · obtain ⟨oc, od, kV, doc, pm, an, cdv, ct, osl, e, _, _⟩ := a48.fn.ex
    rw [e]
    exact .of_eq rfl
  have m22 : He.cT K ("is_text_of_signs", none) ∈ tfB.map (He.cT K) := List.mem_map.mpr ⟨_, by simp [tfB], rfl⟩
  have t22 := tab_conv (TB _ (subL m22))
  have m24 : He.cT K ("is_row", none) ∈ tfB.map (He.cT K) := List.mem_map.mpr ⟨_, by simp [tfB], rfl⟩
  have t24 := tab_conv (TB _ (subL m24))
  have g40 := ok_begun (P := PySem.Challenge.rw_tabgrow_k38_whole_refused_and_let_later.prog) (w := w) (base := base) (mg := mg) T a40.fn 
  have g41 := ok_take (P := PySem.Challenge.rw_tabgrow_k38_whole_refused_and_let_later.prog) (w := w) (base := base) (mg := mg)  a41.fn 
  have g43 := ok_sign (P := PySem.Challenge.rw_tabgrow_k38_whole_refused_and_let_later.prog) (w := w) (base := base) (mg := mg)  a43.fn g41 a41.kp b41 a41.mg_
  have g44 := ok_toldM (P := PySem.Challenge.rw_tabgrow_k38_whole_refused_and_let_later.prog) (w := w) (base := base) (mg := mg) (kl := 14) Er Es eG a44.fn 
  have g20 := ok_whole (P := PySem.Challenge.rw_tabgrow_k38_whole_refused_and_let_later.prog) (w := w) (base := base) (mg := mg) T a20.fn 
  have g27 := ok_cstyle (P := PySem.Challenge.rw_tabgrow_k38_whole_refused_and_let_later.prog) (w := w) (base := base) (mg := mg) T N a27.fn g20 a20.kp b20 a20.mg_
  have g21 := ok_sg (P := PySem.Challenge.rw_tabgrow_k38_whole_refused_and_let_later.prog) (w := w) (base := base) (mg := mg) T N a21.fn 
  have g22 := ok_text (P := PySem.Challenge.rw_tabgrow_k38_whole_refused_and_let_later.prog) (w := w) (base := base) (mg := mg) (cs := tfB.map (He.cT K)) T a22.fn (code_of a22) t22 m22 g21 a21.kp b21 a21.mg_
  have g24 := ok_isrow (P := PySem.Challenge.rw_tabgrow_k38_whole_refused_and_let_later.prog) (w := w) (base := base) (mg := mg) T N a24.fn (code_of a24) t24 m24 g22 a22.kp b22 a22.mg_
  have g25 := ok_misfit (P := PySem.Challenge.rw_tabgrow_k38_whole_refused_and_let_later.prog) (w := w) (base := base) (mg := mg) T N a25.fn g24 a24.kp b24 a24.mg_
  have g26 := ok_check (P := PySem.Challenge.rw_tabgrow_k38_whole_refused_and_let_later.prog) (w := w) (base := base) (mg := mg) T a26.fn g25 a25.kp b25 a25.mg_
  have g29 := ok_writ (P := PySem.Challenge.rw_tabgrow_k38_whole_refused_and_let_later.prog) (w := w) (base := base) (mg := mg) eT eL a29.fn g26 a26.kp b26 a26.mg_
  have g30 := ok_rowsof (P := PySem.Challenge.rw_tabgrow_k38_whole_refused_and_let_later.prog) (w := w) (base := base) (mg := mg) (cs := tfB.map (He.cT K)) T eT eL a30.fn 
  have g20_B := ok_wholeB (P := PySem.Challenge.rw_tabgrow_k38_whole_refused_and_let_later.prog) (w := w) (base := base) (mg := mg) T a20.fn 
  have g22_3 := ok_text3 (P := PySem.Challenge.rw_tabgrow_k38_whole_refused_and_let_later.prog) (w := w) (base := base) (mg := mg) (cs := tfB.map (He.cT K)) T a22.fn (code_of a22) t22 m22 g21 a21.kp b21 a21.mg_
  have g24_3 := ok_row3 (P := PySem.Challenge.rw_tabgrow_k38_whole_refused_and_let_later.prog) (w := w) (base := base) (mg := mg) T N a24.fn (code_of a24) t24 m24 g22_3 a22.kp b22 a22.mg_
  have g25_B := ok_misB (P := PySem.Challenge.rw_tabgrow_k38_whole_refused_and_let_later.prog) (w := w) (base := base) (mg := mg) T N a25.fn g24_3 a24.kp b24 a24.mg_
  have g35 := ok_marks (P := PySem.Challenge.rw_tabgrow_k38_whole_refused_and_let_later.prog) (w := w) (base := base) (mg := mg)  a35.fn 
  have g36 := ok_those (P := PySem.Challenge.rw_tabgrow_k38_whole_refused_and_let_later.prog) (w := w) (base := base) (mg := mg)  a36.fn 
  have g37 := ok_textof (P := PySem.Challenge.rw_tabgrow_k38_whole_refused_and_let_later.prog) (w := w) (base := base) (mg := mg)  a37.fn 
  have g38 := ok_first (P := PySem.Challenge.rw_tabgrow_k38_whole_refused_and_let_later.prog) (w := w) (base := base) (mg := mg)  a38.fn 
  have g23 := ok_filled (P := PySem.Challenge.rw_tabgrow_k38_whole_refused_and_let_later.prog) (w := w) (base := base) (mg := mg)  a23.fn g22 a22.kp b22 a22.mg_
  have g34 := ok_cmark (P := PySem.Challenge.rw_tabgrow_k38_whole_refused_and_let_later.prog) (w := w) (base := base) (mg := mg) eT eL a34.fn g23 a23.kp b23 a23.mg_
  have t_check_hand := ok_chand (P := PySem.Challenge.rw_tabgrow_k38_whole_refused_and_let_later.prog) (w := w) (base := base) (mg := mg) T Xc a_Table_check_hand g20_B a20.kp b20 a20.mg_
  have t_present := ok_present (P := PySem.Challenge.rw_tabgrow_k38_whole_refused_and_let_later.prog) (w := w) (base := base) (mg := mg) Xc a_Table_present g36 a36.kp b36 a36.mg_
  have t_near := ok_near (P := PySem.Challenge.rw_tabgrow_k38_whole_refused_and_let_later.prog) (w := w) (base := base) (mg := mg) T Xc a_Table_near m_Table_present t_present b_Table_present
  have t_go := ok_go (P := PySem.Challenge.rw_tabgrow_k38_whole_refused_and_let_later.prog) (w := w) (base := base) (mg := mg) (cs := tfB.map (He.cT K)) Xc a_Table_go m_Table_near t_near b_Table_near
  have t_right := ok_tright (P := PySem.Challenge.rw_tabgrow_k38_whole_refused_and_let_later.prog) (w := w) (base := base) (mg := mg) (cs := tfB.map (He.cT K)) Xc a_Table_right m_Table_check_hand t_check_hand b_Table_check_hand m_Table_go t_go b_Table_go
  have t_page := ok_tpage (P := PySem.Challenge.rw_tabgrow_k38_whole_refused_and_let_later.prog) (w := w) (base := base) (mg := mg) (cs := tfB.map (He.cT K)) Xc a_Table_page m_Table_present t_present b_Table_present g37 a37.kp b37 a37.mg_ g30 a30.kp b30 a30.mg_
  have t_at := ok_tat (P := PySem.Challenge.rw_tabgrow_k38_whole_refused_and_let_later.prog) (w := w) (base := base) (mg := mg) (cs := tfB.map (He.cT K)) T Xc a_Table_at m_Table_check_hand t_check_hand b_Table_check_hand m_Table_present t_present b_Table_present g37 a37.kp b37 a37.mg_ g30 a30.kp b30 a30.mg_
  have t_told := ok_ttold (P := PySem.Challenge.rw_tabgrow_k38_whole_refused_and_let_later.prog) (w := w) (base := base) (mg := mg) Xc a_Table_told
  have t_settle := ok_settle (P := PySem.Challenge.rw_tabgrow_k38_whole_refused_and_let_later.prog) (w := w) (base := base) (mg := mg) (cs := tfB.map (He.cT K)) T Er Xc a_Table_settle g35 a35.kp b35 a35.mg_ g36 a36.kp b36 a36.mg_ g37 a37.kp b37 a37.mg_ g30 a30.kp b30 a30.mg_ (fn_or g25 g25_B) a25.kp b25 a25.mg_ g38 a38.kp b38 a38.mg_
  have t_turn := ok_turn (P := PySem.Challenge.rw_tabgrow_k38_whole_refused_and_let_later.prog) (w := w) (base := base) (mg := mg) (cs := tfB.map (He.cT K)) T Xc a_Table_turn m_Table_settle t_settle b_Table_settle
  have t_back := ok_tback (P := PySem.Challenge.rw_tabgrow_k38_whole_refused_and_let_later.prog) (w := w) (base := base) (mg := mg) (cs := tfB.map (He.cT K)) T Xc a_Table_back m_Table_check_hand t_check_hand b_Table_check_hand m_Table_turn t_turn b_Table_turn
  have t_again := ok_tagain (P := PySem.Challenge.rw_tabgrow_k38_whole_refused_and_let_later.prog) (w := w) (base := base) (mg := mg) (cs := tfB.map (He.cT K)) T Xc a_Table_again m_Table_check_hand t_check_hand b_Table_check_hand m_Table_turn t_turn b_Table_turn
  have t_rub := ok_trub (P := PySem.Challenge.rw_tabgrow_k38_whole_refused_and_let_later.prog) (w := w) (base := base) (mg := mg) (cs := tfB.map (He.cT K)) T ErB Xc a_Table_rub m_Table_check_hand t_check_hand b_Table_check_hand m_Table_near t_near b_Table_near m_Table_settle t_settle b_Table_settle
  have t_press := ok_pressT (P := PySem.Challenge.rw_tabgrow_k38_whole_refused_and_let_later.prog) (w := w) (base := base) (mg := mg) (cs := tfB.map (He.cT K)) T Xc a_Table_press m_Table_check_hand t_check_hand b_Table_check_hand g34 a34.kp b34 a34.mg_ m_Table_settle t_settle b_Table_settle
  have t_init := ok_tinit (P := PySem.Challenge.rw_tabgrow_k38_whole_refused_and_let_later.prog) (w := w) (base := base) (mg := mg) (cs := tfB.map (He.cT K)) T Xc eM a_Table_init g29 a29.kp b29 a29.mg_ g27 a27.kp b27 a27.mg_ g20_B a20.kp b20 a20.mg_
  have g45 := ok_refused (P := PySem.Challenge.rw_tabgrow_k38_whole_refused_and_let_later.prog) (w := w) (base := base) (mg := mg) (cs := tfB.map (He.cT K)) T Xc a45.fn g41 a41.kp b41 a41.mg_ g44 a44.kp b44 a44.mg_ m_Table_page t_page b_Table_page m_Table_told t_told b_Table_told m_Table_at t_at b_Table_at
  have g46 := ok_pa (P := PySem.Challenge.rw_tabgrow_k38_whole_refused_and_let_later.prog) (w := w) (base := base) (mg := mg) (cs := tfB.map (He.cT K)) (p2 := (He.cT K ("_law_rubbed_back", none)).2) T Xc ne0 a46.fn (code_of a46) (TB _ (memL (r := ("_law_pressed_again", none)) (by simp [lmL]))) g45 a45.kp b45 a45.mg_ m_Table_press (fn0_of t_press) b_Table_press m_Table_page t_page b_Table_page m_Table_back (fn0_of t_back) b_Table_back m_Table_again (fn0_of t_again) t_again b_Table_again
  have g47 := ok_rb (P := PySem.Challenge.rw_tabgrow_k38_whole_refused_and_let_later.prog) (w := w) (base := base) (mg := mg) (cs := tfB.map (He.cT K)) (p1 := (He.cT K ("_law_pressed_again", none)).2) T Xc ne a47.fn (code_of a47) (TB _ (memL (r := ("_law_rubbed_back", none)) (by simp [lmL]))) g45 a45.kp b45 a45.mg_ m_Table_press (fn0_of t_press) b_Table_press m_Table_page t_page b_Table_page m_Table_back (fn0_of t_back) t_back b_Table_back m_Table_again (fn0_of t_again) b_Table_again m_Table_rub (fn0_of t_rub) b_Table_rub
  exact ok_law T Xc ne0 ne nn10 a48.fn g40 a40.kp b40 a40.mg_ g41 a41.kp b41 a41.mg_ g43 a43.kp b43 a43.mg_ g46 a46.kp b46 a46.mg_ g47 a47.kp b47 a47.mg_ mk_Table t_init b_Table_init gT m_Table_right t_right b_Table_right
end TG


namespace TG
open PySem PySem.Spec PyProof.Rows L2
abbrev R : PySem.W.OpenRow := PySem.W.OpenLaw.row PySem.Challenge.rw_tabgrow_k38_whole_refused_and_let_later
abbrev hk : PySem.W.Hook := He.hookX 4 faL fnL [] tfL exC
def ob (s : PySem.W.SharedT) : He.AlX := He.obsX 4 faL fnL [] tfL exC (HandSHeadRun.getT s)
theorem ob_eq (s : PySem.W.SharedT) : ob s = hk.obs s.abs := He.obsX_eq (HandSHeadRun.getT_eq s)
def loose0 : List Str := [PySem.Str.ofString "_wall", PySem.Str.ofString "GrowError", PySem.Str.ofString "BadPage", PySem.Str.ofString "BadStyle", PySem.Str.ofString "BadCell", PySem.Str.ofString "BadCount", PySem.Str.ofString "BadHand", PySem.Str.ofString "TooMuch", PySem.Str.ofString "MOST_ROWS", PySem.Str.ofString "MOST_CELLS", PySem.Str.ofString "MOST_SIGNS", PySem.Str.ofString "MOST_GAP", PySem.Str.ofString "MOST_LEAST", PySem.Str.ofString "BLANK", PySem.Str.ofString "TILDE", PySem.Str.ofString "PERCENT", PySem.Str.ofString "TAB", PySem.Str.ofString "LINE_END", PySem.Str.ofString "is_whole", PySem.Str.ofString "is_sign"]
def loose1 : List Str := [PySem.Str.ofString "is_text_of_signs", PySem.Str.ofString "is_filled", PySem.Str.ofString "is_row", PySem.Str.ofString "first_misfit", PySem.Str.ofString "check_page", PySem.Str.ofString "check_style", PySem.Str.ofString "written", PySem.Str.ofString "rows_of", PySem.Str.ofString "MOST_HANDS", PySem.Str.ofString "Table", PySem.Str.ofString "check_mark", PySem.Str.ofString "marks_there", PySem.Str.ofString "those_there", PySem.Str.ofString "text_of", PySem.Str.ofString "first_there", PySem.Str.ofString "_law_begun", PySem.Str.ofString "_law_take", PySem.Str.ofString "_law_alike", PySem.Str.ofString "_law_sign", PySem.Str.ofString "_law_told"]
def loose2 : List Str := [PySem.Str.ofString "_law_refused", PySem.Str.ofString "_law_pressed_again", PySem.Str.ofString "_law_rubbed_back"]
def looseL : List Str := loose0 ++ loose1 ++ loose2
theorem run (w : World) : HandSHeadRun.RunEq R (PySem.W.view R.prog [48]) hk ob 4000 looseL w := by
  intro os
  kernel_rfl
end TG


open PySem PySem.W PySem.Calls PyProof.Rows
theorem PySem.Challenge.cw_tabgrow_k38_whole_refused_and_let_later_holds : PySem.Challenge.rw_tabgrow_k38_whole_refused_and_let_later.Holds := by
  w_on; o_law
  refine HandSHeadRun.head_any (r := OpenLaw.row PySem.Challenge.rw_tabgrow_k38_whole_refused_and_let_later) (q := view (OpenLaw.row PySem.Challenge.rw_tabgrow_k38_whole_refused_and_let_later).prog [48]) (H := TG.hk) (ob := TG.ob) (M := 4000) (loose := TG.looseL) (d := HandSHeadRun.topDef (OpenLaw.row PySem.Challenge.rw_tabgrow_k38_whole_refused_and_let_later).prog 48) (kwd := []) TG.ob_eq
    (by kernel_rfl) (fun s => by kernel_rfl) TG.run (by kernel_rfl) (by kernel_rfl) (by kernel_rfl) (by rfl) (by first | assumption | decide +kernel) (by decide +kernel) ⟨rfl, rfl, rfl, rfl, rfl, by decide +kernel⟩ ?hw ?hc
  case hw => w_witness2
  case hc =>
    refine LamX.walk_ofTsE (l := PySem.Challenge.rw_tabgrow_k38_whole_refused_and_let_later) (n := 63) (k := 18) (x := "_law_script") (CX := fun _ => L2.CX0) rfl (by decide) (by kernel_rfl) ⟨rfl, by decide, by decide⟩ ?F (fun _ _ _ _ _ z => z)
    intro w mg fa h Y G hmg0
    obtain ⟨K, KX, c⟩ := Y
    have hmg : mg ("law" : PySem.Str) = some (.ref fa) := by
      have e : (HandSHeadRun.topDef (OpenLaw.row PySem.Challenge.rw_tabgrow_k38_whole_refused_and_let_later).prog 48).name = ("law" : PySem.Str) := by kernel_rfl
      rw [← e]
      exact hmg0
    exact ⟨K, KX, TG.facts KX G hmg c⟩

