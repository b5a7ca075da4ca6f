import PyProof.Rows.All
import Wide.All
import OpenK.AllK
import Wide.FinOn
import HandS.ForMost
import HandS.Exc
import HandS.GenList
import HandS.AnyAll
import HandS.IsInst
import HandS.StrMore
import HandS.Flow
import HandS.TupAny
import HandS.EndTab
import HandS.Walk
import HandS.Lambda
import HandS.Codes
import KE.KIntText
import KE.KxText
import KE.KStateDown
import HandS.Head0
import HandS.Head1
import HandS.Head2
import HandS.HeadEnd
import HandS.HeadHook1
import HandS.HeadHook2
import HandS.HeadHook3
import HandS.HeadHook4
import HandS.HeadWalk
import PyProof.WalkInts
import PyProof.ZipIter
import HandS.Zip
import HandS.Nested
import HandS.GenOver
import KE.KLam
import PySem.Challenge.RW_tabgrow_k37_whole_one_sign_many_rubs
import HandS.WordsExc
import HandS.ExcInit
import HandS.ExcOwn
import HandS.FStr
import HandS.ExcIs
import HandS.ExcField
import KE.KExcIs
import KE.KExcSuper
import KE.KSuper
import KE.KSuperObj
import HandS.Style
import HandS.Conv
import HandS.TryMany
import HandS.Dict
set_option Elab.async false
set_option linter.all false
set_option maxRecDepth 1000000
set_option maxHeartbeats 20000000
namespace Gx
open PySem PySem.Spec PyProof.Rows L2 GenW
abbrev gE (X : Cx) (sc : Scope) (C : Addr) (code : Value) : Env :=
  genEnv sc (cloFrom X.env.cells sc.names []) C code builtinsNs X.env
/-- the context of the element -/
def gCx (X : Cx) (A : Around) (sc : Scope) (x : Str) (code : Value) (s4 : Shared) (H4 : Hp) (fp : List Addr) : Cx where
  prog := X.prog
  w := X.w
  K := X.K
  mg := X.mg
  base := X.base
  A := A.deeper (gE X sc s4.heap.objs.size code)
  N := [x]
  s_0 := s4
  H_0 := H4
  env := gE X sc s4.heap.objs.size code
  outer := X.stack
  stack := gE X sc s4.heap.objs.size code :: X.stack
  ex := fp
  fn := fun _ => false
  calm := true
  pn := []
  xe := fun _ _ => False
/-- the scope of a generator expression that captures nothing -/
structure GSc (sc : Scope) (x : Str) : Prop where
  kind : sc.kind = .function
  co : sc.isCoroutine = false
  cell : ∀ y ∈ sc.names, y.2 ≠ .cell
  free : ∀ y ∈ sc.names, y.2 ≠ .free
  dot : sc.names.lookup (".0" : Str) = some NameKind.local
  loc : sc.names.lookup x = some .local
section
variable {X : Cx} {pins : List (Addr × Obj)} {σ : L2.St} {H : Hp} {s : Shared} {A : Around} {sc : Scope} {x : Str} {code : Value} {fp : List Addr}
theorem no_cells (S : GSc sc x) (cells : List (Str × Addr)) {y : Str} {c : Addr} (h : (cloFrom cells sc.names []).lookup y = some c) : False := by
  rcases cloFrom_mem (PySem.mem_of_lookup h) with z | ⟨z, _⟩
  · cases z
  · exact S.free _ z rfl
theorem gx_inv (I : Inv X pins σ H s) (S : GSc sc x) (hd : A.handled = none) (hfr : A.frames = some X.stack) (hf : ∀ b ∈ fp, FpOk X pins H b)
    (hlt : ∀ b ∈ fp, b < s.heap.objs.size) {s5 : Shared} {m : Str → Option Value} (os : s5.os = s.os) (bare : AllBare s5.gens)
    (keep : ∀ b o, s.heap.get? b = some o → s5.heap.get? b = some o) (hns : s5.heap.Ns s.heap.objs.size m) :
    Inv (gCx X A sc x code s H fp) [] [none] H s5 := by
  have nc : ∀ {y : Str} {c : Addr}, (gCx X A sc x code s H fp).env.cells.lookup y = some c → False := fun {y c} h => no_cells S _ h
  refine ⟨⟨I.ok.mod, S.kind, I.ok.glob, rfl, Nat.le_refl _, fun y z c e _ => (nc e).elim, fun y hy => ?_, fun y c _ e => (nc e).elim, fun _ => hd,
      Around.frames_deeper hfr, .inr ⟨rfl, rfl⟩, fun b hb => ⟨Nat.ne_of_lt (hlt b hb), fun y c e => (nc e).elim⟩, I.bs, Nat.le_trans I.ok.bsz I.sz,
      fun b o e hb => ?_, fun b hb z => ?_, I.stack, I.stkFree⟩,
    os, bare, Un.kept keep, ⟨m, hns, fun i y v _ e2 _ => ?_⟩, fun y c e => (nc e).elim, I.hok.fresh (Nat.le_refl _), fun y c e => (nc e).elim,
    fun p hp => ?_, I.hok.kept keep, rfl⟩
  · rcases hy with z | z
    · exact absurd rfl (S.cell _ (PySem.mem_of_lookup (show sc.names.lookup y = some .cell from z)))
    · exact absurd rfl (S.free _ (PySem.mem_of_lookup (show sc.names.lookup y = some .free from z)))
  · rcases (hf b hb).2.2.2.1 with z | z
    · exact I.ok.noex b o e z
    · exact absurd (Nat.lt_of_lt_of_le (Heap.lt_size e) (Nat.le_trans I.ok.bsz z)) (Nat.lt_irrefl _)
  · rcases List.mem_cons.mp (I.stkSub b z) with q | q
    · exact (hf b hb).2.1 q
    · exact (hf b hb).2.2.1 q
  · match i, e2 with
    | 0, e2 => cases e2
    | i + 1, e2 => simp at e2
  · exact absurd (show p ∈ ([] : List (Addr × Obj)) from hp) (by simp)
/-- only the generators' states differ -/
theorem regens {s' : Shared} (I : Inv X pins σ H s) (os : s'.os = s.os) (hh : ∀ b o, s.heap.get? b = some o → s'.heap.get? b = some o) (hb : AllBare s'.gens) : Inv X pins σ H s' :=
  I.call' (ch := []) os (Un.kept hh) (I.hok.kept hh) hb fun b z => by simp at z
/-- the consumer's own list, if it has one -/
def Held (So : Option Addr) (Rel : Array Value → Prop) (ps : List (Addr × Obj)) : Prop :=
  match So with
  | none => ps = []
  | some S => ∃ acc c, ps = [(S, lstObj acc c)] ∧ Rel acc
structure Woke (So : Option Addr) (Rel : Array Value → Prop) (s s' : Shared) : Prop where
  os : s'.os = s.os
  bare : AllBare s'.gens
  keep : ∀ b o, So ≠ some b → s.heap.get? b = some o → s'.heap.get? b = some o
  own : ∀ S, So = some S → ∃ acc' c', s'.heap.get? S = some (lstObj acc' c') ∧ Rel acc'
theorem woken {Z : Cx} {q ps : List (Addr × Obj)} {So : Option Addr} {Rel Rel' : Array Value → Prop} {s' : Shared} (I : Inv Z (q ++ ps) σ H s) (hps : Held So Rel ps) (hq : ∀ p ∈ Z.pn ++ q, So ≠ some p.1)
    (hS : ∀ S, So = some S → Z.s_0.heap.objs.size ≤ S ∧ S ≠ Z.env.locals ∧ ∀ y c, Z.env.cells.lookup y = some c → c ≠ S) (k : Woke So Rel' s s') :
    ∃ ps', Held So Rel' ps' ∧ Inv Z (q ++ ps') σ H s' ∧ ∀ p ∈ ps', s'.heap.get? p.1 = some p.2 := by
  cases So with
  | none =>
    have e : ps = [] := hps
    subst e
    exact ⟨[], rfl, regens I k.os (fun b o e => k.keep b o (by simp) e) k.bare, fun p hp => by simp at hp⟩
  | some S =>
    obtain ⟨acc, c, e, _⟩ := hps
    subst e
    obtain ⟨h1, h2, h3, h4, _⟩ := I.pin (S, lstObj acc c) (List.mem_append_right _ (List.mem_append_right _ (List.mem_singleton.mpr rfl)))
    obtain ⟨acc', c', e', hR⟩ := k.own S rfl
    obtain ⟨g1, g2, g3⟩ := hS S rfl
    have I0 : Inv Z q σ H s := I.pins_of fun p hp => I.pin p (List.mem_append_right _ (List.mem_append_left _ hp))
    have nS : ∀ b u, H b = some u → b ≠ S := fun b u e z => by rw [z, h2] at e; cases e
    have kp : ∀ b o, b ≠ S → s.heap.get? b = some o → s'.heap.get? b = some o := fun b o hb e => k.keep b o (fun z => hb (Option.some.inj z).symm) e
    have ni : ∀ b : Addr, b ∉ [S] → b ≠ S := fun b hb e => hb (by rw [e]; exact List.mem_singleton.mpr rfl)
    have J : Inv Z q σ H s' := by
      refine I0.call' (ch := [S]) k.os ⟨fun b o e _ _ hx => kp b o (ni b hx) e, fun b o e _ _ hx => ⟨o.slots, kp b o (ni b hx) e⟩, fun _ _ _ n _ => n, fun b o e hx => ⟨o, kp b o (ni b hx) e⟩,
        fun _ _ e => e, fun _ _ _ e => e, fun _ _ e => ⟨#[], by rw [e]; simp⟩⟩ (fun b u e => ?_) k.bare fun b hb => ?_
      · refine (I0.hok b u e).stay (fun d v hd z => kp d v ?_ z) (fun _ z => z) fun _ _ z => z
        rcases hd with z | z
        · rw [z]; exact nS b u e
        · exact nS d _ z
      · have eb : b = S := List.mem_singleton.mp hb
        subst eb
        exact ⟨.inr g1, g2, g3, fun p hp z => hq p hp (by rw [z])⟩
    refine ⟨[(S, lstObj acc' c')], ⟨acc', c', rfl, hR⟩, J.pins_of fun p hp => ?_, fun p hp => by rw [List.mem_singleton.mp hp]; exact e'⟩
    rcases List.mem_append.mp hp with z | z
    · exact J.pin p (List.mem_append_right _ z)
    · rw [List.mem_singleton.mp z]
      exact ⟨e', h2, h3, h4, fun v z => by cases z⟩
abbrev WT := Nat → List V → Hp → Prop
/-- an item is handed out -/
def GYx (Z : Cx) (q : List (Addr × Obj)) (So : Option Addr) (Rel : List V → Array Value → Prop) (W : WT) (Ny : Nat → List V → V → Hp → Prop) : Protocol := fun n s₀ v s1 kap =>
  ∃ m ys y σ H ps, m < n + 1 ∧ RelV y v ∧ Held So (Rel ys) ps ∧ (∀ p ∈ ps, s₀.heap.get? p.1 = some p.2) ∧ Inv Z (q ++ ps) σ H s1 ∧ Ny m ys y H ∧ ∀ s', Woke So (Rel (ys ++ [y])) s1 s' → ∀ m', m' < m → W m' (ys ++ [y]) H → kap (.send .none) s'
def GFx (Z : Cx) (q : List (Addr × Obj)) (So : Option Addr) (Rel : List V → Array Value → Prop) (Ns : List V → Hp → Prop) (s₀ s1 : Shared) : Prop :=
  ∃ ys σ H ps, Held So (Rel ys) ps ∧ (∀ p ∈ ps, s₀.heap.get? p.1 = some p.2) ∧ Inv Z (q ++ ps) σ H s1 ∧ Ns ys H
abbrev GRx (Z : Cx) (q : List (Addr × Obj)) (So : Option Addr) (Rel : List V → Array Value → Prop) (Ns : List V → Hp → Prop) : GenEnd := fun n s₀ r s₁ =>
  ((r = .ok (.ret .none) ∨ r = .ok .next) ∧ (fun (_ : Nat) (t : Shared) s => GFx Z q So Rel Ns t s) n s₀ s₁) ∨ ∃ e, r = .error e ∧ (fun (_ : Value) (_ : Shared) => False) e s₁
theorem seg_turns {elt iter : Expr} {px : Pos} {pos : Pos} {it : Addr} {J : It} {tn : Nat → Heap → Prop} {te : TE} {W : WT} {Ny : Nat → List V → V → Hp → Prop} {Ns : List V → Hp → Prop} {s4 : Shared} {H4 : Hp}
    {q : List (Addr × Obj)} {So : Option Addr} {Rel : List V → Array Value → Prop}
    (S : GSc sc x) (T : Turn X.prog X.w X.K (.Name x px) J fp it tn)
    (stat : ∀ b ∈ fp, b ≠ s4.heap.objs.size ∧ b ∉ frs X.stack ∧ (∀ p ∈ q, p.1 ≠ b) ∧ So ≠ some b)
    (hq : ∀ p ∈ q, So ≠ some p.1) (hS : ∀ S', So = some S' → s4.heap.objs.size < S')
    (he : PE (gCx X A sc x code s4 H4 fp) elt te)
    (step : ∀ m ys H, W m ys H → (J.stop ys.length H ∧ Ns ys H) ∨ (J.go ys.length H ∧ ∀ v H', J.yld ys.length H v H' → te [some v] H' (Ny m ys))) :
    ∀ (n m : Nat) (ys : List V) (s₀ s : Shared) (σ : L2.St) (H : Hp) (ps : List (Addr × Obj)), m < n → Held So (Rel ys) ps → (∀ p ∈ ps, s₀.heap.get? p.1 = some p.2) → W m ys H → Inv (gCx X A sc x code s4 H4 fp) (q ++ ps) σ H s → tn ys.length s.heap → (∀ b ∈ fp, H b = none) →
      Seg (model X.prog X.w) A (GRx (gCx X A sc x code s4 H4 fp) q So Rel Ns) (GYx (gCx X A sc x code s4 H4 fp) q So Rel W Ny) n s₀
        (.compLoop (.GeneratorExp elt [⟨.Name x px, iter, [], 0⟩] sc pos) 0 (.ref it) .none (gE X sc s4.heap.objs.size code))
        ((model X.prog X.w).den (.compLoop (.GeneratorExp elt [⟨.Name x px, iter, [], 0⟩] sc pos) 0 (.ref it) .none (gE X sc s4.heap.objs.size code))) [] s := by
  have nc : ∀ {y : Str} {c : Addr}, (gCx X A sc x code s4 H4 fp).env.cells.lookup y = some c → False := fun {y c} h => no_cells S _ h
  intro n
  induction n with
  | zero => intro m _ _ _ _ _ _ hm; exact absurd hm (Nat.not_lt_zero _)
  | succ n ih =>
    intro m ys s₀ s σ H ps hm hps hs0 hW I htn hfn
    have fok : ∀ {H' : Hp}, (∀ b ∈ fp, H' b = none) → ∀ b ∈ fp, FpOk (gCx X A sc x code s4 H4 fp) (q ++ ps) H' b := fun {H'} hn b hb => by
      obtain ⟨a1, a2, a3, a4⟩ := stat b hb
      refine ⟨hn b hb, a1, a2, .inl hb, fun y c e => (nc e).elim, fun p hp => ?_⟩
      rcases List.mem_append.mp (show p ∈ q ++ ps from hp) with z | z
      · exact a3 p z
      · cases So with
        | none =>
          have e : ps = [] := hps
          rw [e] at z
          simp at z
        | some S' =>
          obtain ⟨acc, c, e, _⟩ := hps
          rw [e] at z
          rw [List.mem_singleton.mp z]
          exact fun w => a4 (by rw [← w])
    show Seg _ A _ _ _ s₀ _ ((compTurn (.GeneratorExp elt [⟨.Name x px, iter, [], 0⟩] sc pos) 0 (.ref it) .none (gE X sc s4.heap.objs.size code)).onRaise (leaving (gE X sc s4.heap.objs.size code))) [] s
    rw [compTurn_gen, Sem.onRaise_eq_wrap]
    refine seg_bind_wrap (wpAny_standAt ?_)
    rcases step m ys H hW with ⟨stop, qn⟩ | ⟨go, st⟩
    · refine seg_bind_wrap (thn (T.done (gCx X A sc x code s4 H4 fp) rfl rfl rfl rfl ys.length (q ++ ps) s σ H _ I (fok hfn) htn stop) fun r s5 ⟨hr, I5⟩ => ?_)
      subst hr
      exact seg_end (.ok .next) (.inl ⟨.inr rfl, ys, σ, H, ps, hps, hs0, I5, qn⟩)
    · refine seg_bind_wrap (thn (T.item (gCx X A sc x code s4 H4 fp) rfl rfl rfl rfl ys.length (q ++ ps) s σ H _ I (fok hfn) htn go) fun r s5 ⟨u, hr, h5⟩ => ?_)
      subst hr
      refine seg_bind_wrap (thn h5 fun _ s6 ⟨v, H6, I6, r6, y6, tn6, fn6⟩ => ?_)
      have I6' := I6.pinned (fok fn6) (T.obj _ _ tn6)
      have pg : PG (gCx X A sc x code s4 H4 fp) (.Name x px) (gName 0) := pg_name (i := 0) (List.nodup_cons.mpr ⟨by simp, List.nodup_nil⟩) rfl (.inl S.loc) (.inr S.loc)
      have eσ : σ.set 0 (some v) = [some v] := by
        have hl : σ.length = 1 := I.len
        match σ, hl with
        | [_], _ => rfl
      refine seg_bind_wrap (wpAny_mono (pg.run _ s6 σ H6 v u (fun σ' H' => σ' = [some v] ∧ H' = H6) I6' r6 ⟨eσ, rfl⟩) (fun _ s7 h7 => ?_) fun _ _ z => z.elim)
      obtain ⟨σ7, H7, I7, eσ7, eH7⟩ := h7
      subst eσ7 eH7
      simp only [List.forIn_nil]
      refine seg_bind_wrap (wpAny_pure ?_)
      simp only [if_true]
      have hy : ∀ v, yieldOut (gE X sc s4.heap.objs.size code) v = yieldValue v := fun v => by
        simp only [yieldOut, show (gE X sc s4.heap.objs.size code).scope.isCoroutine = false from S.co, Bool.false_eq_true, if_false]
      simp only [hy]
      rw [Sem.bind_eq_wrap', Sem.bind_eq_wrap', Sem.wrap_wrap, Sem.wrap_wrap]
      refine seg_wrap (wpAny_mono (he.run _ s7 [some v] H7 _ I7 (st v H7 y6)) (fun w s8 h8 => ?_) fun _ _ z => z.elim)
      obtain ⟨y, H8, I8, r8, ny⟩ := h8
      have fn8 : ∀ b ∈ fp, H8 b = none := fun b hb => by
        obtain ⟨o, e, d⟩ := T.obj _ _ tn6 b hb
        exact (I8.pin (b, o) (List.mem_append_right _ (List.mem_append_right _ (mem_pinsAt hb e)))).2.1
      have tn8 : tn (ys.length + 1) s8.heap := T.keep _ _ _ tn6 fun b hb o e => (I8.pin (b, o) (List.mem_append_right _ (List.mem_append_right _ (mem_pinsAt hb e)))).1
      refine seg_at (seg_yield rfl rfl rfl ⟨m, ys, y, [some v], H8, ps, hm, r8, hps, hs0, I8.unpinned, ny, fun s9 wk m' hm' w' => ?_⟩)
      obtain ⟨ps', hps', I9, e9⟩ := woken I8.unpinned hps (fun p hp => hq p hp) (fun S' e => ⟨Nat.le_of_lt (hS S' e), Nat.ne_of_gt (hS S' e), fun y c e => (nc e).elim⟩) wk
      refine seg_again rfl (ih m' (ys ++ [y]) s9 s9 [some v] H8 ps' (by omega) hps' e9 w' I9 ?_ fn8)
      rw [List.length_append, List.length_singleton]
      exact T.keep _ _ _ tn8 fun b hb o e => wk.keep b o (stat b hb).2.2.2 e
end
end Gx
namespace Gx
open PySem PySem.Spec PyProof.Rows L2 GenW
section
variable {X : Cx} {pins : List (Addr × Obj)} {σ : L2.St} {H : Hp} {s : Shared} {sc : Scope} {x : Str}
theorem seg_begin {A : Around} {elt iter : Expr} {px pos : Pos} {it : Addr} {J : It} {fp : List Addr} {tn : Nat → Heap → Prop} {cenv : Env} {R : GenEnd} {Y : Protocol} {n : Nat} {s₀ : Shared}
    (T : Turn X.prog X.w X.K (.Name x px) J fp it tn) (ht : tn 0 s.heap)
    (loop : Seg (model X.prog X.w) A R Y n s₀ (.compLoop (.GeneratorExp elt [⟨.Name x px, iter, [], 0⟩] sc pos) 0 (.ref it) .none cenv) ((model X.prog X.w).den (.compLoop (.GeneratorExp elt [⟨.Name x px, iter, [], 0⟩] sc pos) 0 (.ref it) .none cenv)) [] s) :
    Seg (model X.prog X.w) A R Y n s₀ (.compStart (.GeneratorExp elt [⟨.Name x px, iter, [], 0⟩] sc pos) 0 (.ref it) .none cenv) ((model X.prog X.w).den (.compStart (.GeneratorExp elt [⟨.Name x px, iter, [], 0⟩] sc pos) 0 (.ref it) .none cenv)) [] s := by
  show Seg _ A R Y n s₀ _ ((compStart (.GeneratorExp elt [⟨.Name x px, iter, [], 0⟩] sc pos) 0 (.ref it) .none cenv).onRaise (leaving cenv)) [] s
  unfold compStart
  rw [Sem.onRaise_eq_wrap]
  show Seg _ A R Y n s₀ _ ((ask >>= _).wrap _ _ _ _) [] s
  refine seg_bind_wrap (wpAny_askSetting ?_)
  split
  · exact seg_again rfl loop
  · first
      | exact seg_bind_wrap (wpAny_rule (seg_bind_wrap (wpAny_standAt (seg_bind_wrap (T.self _ 0 s _ _ ht (seg_again rfl loop))))))
      | (refine seg_bind_wrap (wpAny_rule ?_); show Seg _ A R Y n s₀ _ ((standAt iter.pos >>= _).wrap _ _ _ _) [] s; exact seg_bind_wrap (wpAny_standAt (seg_bind_wrap (T.self _ 0 s _ _ ht (seg_again rfl loop)))))
/-- the reading of a generator expression: W the state between two turns, by a measure, what was handed out, the heap -/
def tGen (P : Addr) (wi : TI) (te : TE) (NyOf : WT → Nat → List V → V → Hp → Prop) (Ns : List V → Hp → Prop) : L2.St → Hp → Prop := fun σ H =>
  wi σ H fun J H1 => GxR.TabG H1 P ∧ ∀ H2, GxR.Tabbed P H1 H2 → ∃ W : WT, (∃ m, W m [] H2) ∧ ∀ m ys H, W m ys H →
    (J.stop ys.length H ∧ Ns ys H) ∨ (J.go ys.length H ∧ ∀ v H', J.yld ys.length H v H' → te [some v] H' (NyOf W m ys))
theorem code_step {A : Around} {E : Value → Shared → Prop} {Q : Value → Shared → Prop} {c P : Addr} {gpos : Pos} (I : Inv X pins σ H s) (TB : GxR.TabB X.base X.mg c P) (hcode : X.env.code = .ref c) (hT : GxR.TabG H P)
    (h : ∀ (code : Value) (H3 : Hp) (s3 : Shared), GxR.Tabbed P H H3 → Inv X pins σ H3 s3 → (∀ b o, b ≠ P → s.heap.get? b = some o → s3.heap.get? b = some o) → Q code s3) :
    wpAny (model X.prog X.w) A (genexprCode X.env gpos (X.env.qual ++ "<genexpr>") sc) Q E s := by
  obtain ⟨ps, hP, ht⟩ := id hT
  have hPs : s.heap.get? P = some { cls := .none, data := .fields ps } := I.hok P _ hP
  have cd : PySem.W.CodeHd s.heap c P := TB.code.keeps I.bk
  cases hf : codeAmong gpos ps.toList with
  | none =>
    refine wpAny_genexprCodeX hcode (cd.code hPs ht) (cd.tab hPs) hf fun c' h' tk hx hge hlt hco' _ htab' _ => ?_
    obtain ⟨o1, vs, f1, tf, fl, tg, inF, tx, tt, op, _, _, _, _, _, _, _, _, _, htr, _⟩ := hco'
    have J := GxR.inv_tab (t' := tk) (g' := s.gens) (d' := s.drawn) I hP (fun b o hb e => hx b o hb e) htab'.2 I.bare
    exact h _ _ _ ⟨⟨_, upd_same, htr⟩, fun b hb => upd_ne hb⟩ J fun b o hb e => hx b o hb e
  | some cv =>
    refine wpAny_genexprCode_hit hcode (cd.code hPs ht) hf ?_
    exact h _ H s ⟨hT, fun _ _ => rfl⟩ I fun _ _ _ e => e
end
end Gx
namespace Gx
open PySem PySem.Spec PyProof.Rows L2 GenW
section
variable {X : Cx} {pins : List (Addr × Obj)} {σ : L2.St} {H : Hp} {s : Shared} {sc : Scope} {x : Str}
/-- a generator that has not begun, at a in s5 -/
def Begun1 (X : Cx) (pins : List (Addr × Obj)) (σ : L2.St) (k : Nat) (Rel : List V → Array Value → Prop) (NyOf : WT → Nat → List V → V → Hp → Prop) (Ns : List V → Hp → Prop) (a : Addr) (s5 : Shared) : Prop :=
  ∃ (g : Nat) (c : Code) (H4 : Hp), s5.heap.IsGen a g ∧ s5.gens[g]? = some (.fresh c) ∧ Inv X pins σ H4 s5 ∧ a < s5.heap.objs.size ∧
    ∀ (A : Around) (So : Option Addr) (s6 : Shared), Room (k + 1) A → A.frames = some X.stack → (∀ S, So = some S → s5.heap.objs.size ≤ S ∧ ∃ acc c, s6.heap.get? S = some (lstObj acc c) ∧ Rel [] acc) →
      (∀ b o, s5.heap.get? b = some o → s6.heap.get? b = some o) → s6.os = s5.os → AllBare s6.gens →
      ∃ (Z : Cx) (q : List (Addr × Obj)) (W : WT) (m0 : Nat),
        (∀ ps σz Hz s7, Inv Z (q ++ ps) σz Hz s7 → Inv X pins σ Hz s7 ∧ s7.heap.IsGen a g) ∧
        Seg (model X.prog X.w) A (GRx Z q So Rel Ns) (GYx Z q So Rel W (NyOf W)) (m0 + 1) s6 c ((model X.prog X.w).den c) [] s6
theorem gx_make {elt iter : Expr} {px gpos : Pos} {c P : Addr} {wi : TI} {te : TE} {k j : Nat} {Rel : List V → Array Value → Prop} {NyOf : WT → Nat → List V → V → Hp → Prop} {Ns : List V → Hp → Prop} {Q' : Value → Shared → Prop}
    (hr : Room j X.A) (TB : GxR.TabB X.base X.mg c P) (hcode : X.env.code = .ref c) (S : GSc sc x) (hi : PI X (.Name x px) iter wi)
    (he : ∀ (A : Around) (code : Value) (s4 : Shared) (H4 : Hp) (fp : List Addr), Room k (A.deeper (gE X sc s4.heap.objs.size code)) → PE (gCx X A sc x code s4 H4 fp) elt te)
    (hs : ∀ v, genFold iter X.env v = pure v) (I : Inv X pins σ H s) (h : tGen P wi te NyOf Ns σ H)
    (hQ : ∀ a s5, Begun1 X pins σ k Rel NyOf Ns a s5 → Q' (.ref a) s5) :
    wpAny (model X.prog X.w) X.A (eval (.GeneratorExp elt [⟨.Name x px, iter, [], 0⟩] sc gpos) X.env) Q' X.xe s := by
  refine wpAny_GeneratorExp_make S.co (closure_ok fun y hy z => absurd z (S.free y hy)) S.cell S.dot S.kind hr.depth ?_ hs
  refine thn (hi.run pins s σ H _ I h) fun xv s1 h1 => thn h1 fun itv s2 h2 => ?_
  obtain ⟨it, fp, tn, J, H2, e, I2, T, st2, f2, hT, hW⟩ := h2
  subst e
  refine ⟨I2.nolimit, code_step I2 TB hcode hT fun code H3 s3 hTb I3 kp3 => ?_⟩
  obtain ⟨bm, ob, e1, e2, e3, e4, e5, e6, e7, e8⟩ := TB.bm
  refine wpAny_builtinsFor (m := X.mg) (by rw [I3.ok.glob]; exact I3.mod.glob.keeps I3.bk) e1 e2 (I3.bk _ _ e5) e6 e7 e8 fun h' hn' hs' => ?_
  obtain ⟨W, ⟨m0, w0⟩, step⟩ := hW H3 hTb
  have hTP : H2 P ≠ none := by
    obtain ⟨ps, z, _⟩ := hT
    rw [z]; exact fun q => nomatch q
  have nP : ∀ b ∈ fp, b ≠ P := fun b hb z => hTP (by rw [← z]; exact (f2 b hb).1)
  have f3 : ∀ b ∈ fp, FpOk X pins H3 b := fun b hb => ⟨(hTb.2 b (nP b hb)).trans (f2 b hb).1, (f2 b hb).2⟩
  have tn3 : tn 0 s3.heap := T.keep _ _ _ st2 fun b hb o q => kp3 b o (nP b hb) q
  have lt3 : ∀ b ∈ fp, b < s3.heap.objs.size := fun b hb => by
    obtain ⟨o, q, _⟩ := T.obj _ _ tn3 b hb
    exact Heap.lt_size q
  have hsz : h'.objs.size = s3.heap.objs.size + 1 := by rw [hs'.1, Heap.size_push]
  have kp' : ∀ b o, s3.heap.get? b = some o → h'.get? b = some o := fun b o q => hs'.extBut b o (Nat.ne_of_lt (Heap.lt_size q)) (Heap.get?_push_of_some _ q)
  refine hQ _ _ ⟨s3.gens.size, _, H3, ⟨_, _, _, Heap.get?_push_size _ rfl, rfl, rfl, rfl⟩, Array.getElem?_push_size .., ?_, ?_, fun A So s6 hrA hfr hSo kp6 os6 b6 => ?_⟩
  · exact regens I3 rfl (fun b o q => Heap.get?_push_of_some _ (kp' b o q)) (AllBare.push I3.bare rfl)
  · show h'.objs.size < (h'.push _).objs.size
    rw [Heap.size_push]; exact Nat.lt_succ_self _
  · have kp36 : ∀ b o, s3.heap.get? b = some o → s6.heap.get? b = some o := fun b o q => kp6 b o (Heap.get?_push_of_some _ (kp' b o q))
    have hns6 : s6.heap.Ns s3.heap.objs.size (fun y => if y = ".0" then some (.ref it) else none) := by
      obtain ⟨o, es, ep, ho, r⟩ := hn'
      exact ⟨o, es, ep, kp6 _ _ (Heap.get?_push_of_some _ ho), r⟩
    have IZ := gx_inv (code := code) (A := A) I3 S hrA.hd hfr f3 lt3 (s5 := s6) os6 b6 kp36 hns6
    have big : ∀ b, s3.heap.objs.size < b → H3 b = none ∧ b ≠ s3.heap.objs.size ∧ b ∉ frs X.stack := fun b hb => by
      refine ⟨I3.hok.fresh (Nat.le_of_lt hb), Nat.ne_of_gt hb, fun z => ?_⟩
      rcases List.mem_cons.mp (I3.stkSub b z) with w | w
      · exact absurd (Nat.lt_trans (by rw [w]; exact I3.lt) hb) (Nat.lt_irrefl _)
      · exact I3.nofs (Nat.le_of_lt hb) w
    have ha : s3.heap.objs.size < h'.objs.size := by rw [hsz]; exact Nat.lt_succ_self _
    have hga := kp6 h'.objs.size _ (Heap.get?_push_size _ rfl)
    have hSb : ∀ S', So = some S' → h'.objs.size < S' := fun S' z => by
      have q := (hSo S' z).1
      have q' : (h'.push _).objs.size ≤ S' := q
      rw [Heap.size_push] at q'
      exact q'
    obtain ⟨ps, hps, IZ2⟩ : ∃ ps, Held So (Rel []) ps ∧ Inv (gCx X A sc x code s3 H3 fp) ([(h'.objs.size, _)] ++ ps) [none] H3 s6 := by
      cases So with
      | none =>
        refine ⟨[], rfl, IZ.pins_of fun p hp => ?_⟩
        rw [List.append_nil] at hp
        rw [List.mem_singleton.mp hp]
        obtain ⟨b1, b2, b3⟩ := big _ ha
        exact ⟨hga, b1, b2, b3, fun v z => by cases z⟩
      | some S' =>
        obtain ⟨_, acc, cc, q2, hR⟩ := hSo S' rfl
        refine ⟨[(S', lstObj acc cc)], ⟨acc, cc, rfl, hR⟩, IZ.pins_of fun p hp => ?_⟩
        rcases List.mem_append.mp hp with z | z
        · rw [List.mem_singleton.mp z]
          obtain ⟨b1, b2, b3⟩ := big _ ha
          exact ⟨hga, b1, b2, b3, fun v z => by cases z⟩
        · rw [List.mem_singleton.mp z]
          obtain ⟨b1, b2, b3⟩ := big _ (Nat.lt_trans ha (hSb S' rfl))
          exact ⟨q2, b1, b2, b3, fun v z => by cases z⟩
    have hSne : ∀ b, b ≤ h'.objs.size → So ≠ some b := fun b hb z => absurd (Nat.lt_of_lt_of_le (hSb b z) hb) (Nat.lt_irrefl _)
    refine ⟨gCx X A sc x code s3 H3 fp, [(h'.objs.size, { cls := .type "generator", data := .fields #[.int s3.gens.size 0, .str "<genexpr>" (s3.toks + 1), .str (X.env.qual ++ "<genexpr>") (s3.toks + 1 + 1)] })], W, m0, fun ps σz Hz s7 J7 => ⟨?_, ?_⟩, ?_⟩
    · refine I3.call' (ch := fp) J7.os J7.base J7.hok J7.bare fun b hb => ?_
      obtain ⟨_, a2, _, a4, a5, a6⟩ := f3 b hb
      exact ⟨a4, a2, a5, a6⟩
    · exact ⟨_, _, _, (J7.pin _ (List.mem_append_right _ (List.mem_append_left _ (List.mem_singleton.mpr rfl)))).1, rfl, rfl, rfl⟩
    · refine seg_begin T (T.keep _ _ _ tn3 fun b hb o q => kp36 b o q) ?_
      refine seg_turns S T (fun b hb => ⟨Nat.ne_of_lt (lt3 b hb), fun z => ?_, fun p hp z => ?_, hSne b (Nat.le_of_lt (Nat.lt_trans (lt3 b hb) ha))⟩) (fun p hp => ?_) (fun S' z => Nat.lt_trans ha (hSb S' z)) (he A code s3 H3 fp (hrA.deeper _)) step
        (m0 + 1) m0 [] s6 s6 [none] H3 ps (Nat.lt_succ_self _) hps (fun p hp => (IZ2.pin p (List.mem_append_right _ (List.mem_append_right _ hp))).1) w0 IZ2 (T.keep _ _ _ tn3 fun b hb o q => kp36 b o q) fun b hb => (f3 b hb).1
      · rcases List.mem_cons.mp (I3.stkSub b z) with w | w
        · exact (f3 b hb).2.1 w
        · exact (f3 b hb).2.2.1 w
      · rw [List.mem_singleton.mp hp] at z
        have q : h'.objs.size = b := z
        exact absurd (Nat.lt_trans (lt3 b hb) ha) (by rw [q]; exact Nat.lt_irrefl _)
      · rw [List.mem_singleton.mp hp]
        exact hSne _ (Nat.le_refl _)
end
end Gx
namespace Gx
open PySem PySem.Spec PyProof.Rows L2 GenW
section
variable {X : Cx} {pins : List (Addr × Obj)} {σ : L2.St} {H : Hp} {s : Shared} {sc : Scope} {x : Str}
def NyAll (Qb : Bool → Hp → Prop) (W : WT) : Nat → List V → V → Hp → Prop := fun m ys y H => ∃ b : Bool, y = .bl b ∧ if b = true then ∃ m', m' < m ∧ W m' (ys ++ [y]) H else Qb false H
abbrev noRel : List V → Array Value → Prop := fun _ _ => True
theorem all_turns {Z : Cx} {q : List (Addr × Obj)} {W : WT} {Qb : Bool → Hp → Prop} {A : Around} {a : Addr} {g : Nat} {Rr : Result → Shared → Prop} (hh : A.handled = none) (hd : A.depth < recursionLimit)
    (fin : ∀ ps σz Hz s7, Inv Z (q ++ ps) σz Hz s7 → Inv X pins σ Hz s7 ∧ s7.heap.IsGen a g)
    (hdone : ∀ b H' s', Inv X pins σ H' s' → Qb b H' → Rr (.ok (.ret (.bool b))) s') :
    ∀ (n : Nat) (s : Shared), s.heap.IsGen a g → s.heap.NoLimit →
      (∃ gs, s.gens[g]? = some gs ∧ gs.Goes (model X.prog X.w) A.in1.in1 (GRx Z q none noRel fun _ => Qb true) (GYx Z q none noRel W (NyAll Qb W)) n (.send .none) (s.setGen g .running)) →
      codeAny (model X.prog X.w) A (.builtin "all.loop" ⟨[.ref a], []⟩) Rr s := by
  intro n
  induction n using Nat.strongRecOn with
  | ind n ih =>
    intro s hg hl ⟨gs, hgs, hgo⟩
    have hgl : g < s.gens.size := (Array.getElem?_eq_some_iff.mp hgs).1
    refine codeAny_builtin F.entry_all_loop ?_; rw [Around.under_plainId F.plain_all_loop _]
    show wpAny _ A.in1 (pyNext (.ref a) >>= _) _ _ s
    refine wpAny_bind (wpAny_gsz (n := g + 1) hgl (next_genG (A := A.in1) hh hl hd hg hgs hgo (fun v s₁ gs' hbare hv => ?_) (fun s₁ hp h' hk => ?_) fun e s₁ he => he.elim))
    · intro hsz
      obtain ⟨m, ys, y, σz, Hz, ps, hm, rv, hps, _, J, ⟨b, eb, hb⟩, hkap⟩ := hv
      subst eb
      have eps : ps = [] := hps
      subst eps
      have ev : v = Value.bool b := rv
      subst ev
      obtain ⟨I1, g1⟩ := fin _ _ _ _ J
      have hsz1 : g < s₁.gens.size := by
        have q1 : (s₁.setGen g gs').gens.size = s₁.gens.size := setGen_size _ _ _
        have q2 : g + 1 ≤ (s₁.setGen g gs').gens.size := hsz
        omega
      have bare2 : AllBare (s₁.setGen g gs').gens := allBare_setGen I1.bare hbare
      refine wpAny_bind (wpAny_holding (wpAny_truthy_bool ?_))
      refine wpAny_bind (wpAny_letGo ?_)
      cases b with
      | true =>
        obtain ⟨m', hm', hw⟩ : ∃ m', m' < m ∧ W m' (ys ++ [V.bl true]) Hz := by simpa using hb
        simp only [if_true]
        cases n with
        | zero => omega
        | succ n =>
          refine wpAny_pure ⟨plainId_quiet F.plain_all_loop _, ih n (Nat.lt_succ_self n) (s₁.setGen g gs') g1 I1.nolimit ⟨gs', setGen_at hsz1, ?_⟩⟩
          exact hkap ((s₁.setGen g gs').setGen g .running) ⟨rfl, allBare_setGen bare2 rfl, fun b o _ e => e, fun S z => by cases z⟩ m' hm' hw
      | false =>
        have hq : Qb false Hz := by simpa using hb
        simp only [Bool.false_eq_true, if_false]
        exact wpAny_bind (wpAny_rule (wpAny_pure (hdone false Hz _ (regens I1 rfl (fun _ _ e => e) bare2) hq)))
    · intro hsz
      obtain ⟨ys, σz, Hz, ps, hps, _, J, hq⟩ := hp
      have eps : ps = [] := hps
      subst eps
      obtain ⟨I1, g1⟩ := fin _ _ _ _ J
      exact wpAny_bind (wpAny_rule (wpAny_pure (hdone true Hz _ (regens I1 rfl (fun b o e => hk b o e) (allBare_setGen I1.bare rfl)) hq)))
/-- all(elt for x in iter) -/
def tAllG (P : Addr) (wi : TI) (te : TE) : TE := fun σ H Q => tGen P wi te (NyAll fun b H => Q (.bl b) H) (fun _ H => Q (.bl true) H) σ H
theorem pe_allG {elt iter : Expr} {px p pos gpos : Pos} {c P : Addr} {wi : TI} {te : TE} {k : Nat}
    (hr : Room (k + 3) X.A) (hg : Gl X "all") (hm : X.mg "all" = none) (TB : GxR.TabB X.base X.mg c P) (hcode : X.env.code = .ref c) (S : GSc sc x) (hi : PI X (.Name x px) iter wi)
    (he : ∀ (A : Around) (code : Value) (s4 : Shared) (H4 : Hp) (fp : List Addr), Room k (A.deeper (gE X sc s4.heap.objs.size code)) → PE (gCx X A sc x code s4 H4 fp) elt te)
    (hs : ∀ v, genFold iter X.env v = pure v)
    (hst : starEach [.GeneratorExp elt [⟨.Name x px, iter, [], 0⟩] sc gpos] X.env = (false, eval (.GeneratorExp elt [⟨.Name x px, iter, [], 0⟩] sc gpos) X.env) :: starEach [] X.env := by rfl) :
    PE X (.Call (.Name "all" p) [.GeneratorExp elt [⟨.Name x px, iter, [], 0⟩] sc gpos] [] pos) (tAllG P wi te) := by
  refine ⟨fun pins s σ H Q I h => ?_⟩
  have hb : bootBuiltins "all" = some (.builtin "all") := by decide +kernel
  refine wpAny_Call_Name_kw (ld_blt I hg hm hb (PyProof.Rows.callWith_builtin1 ?_ hst (by rfl)))
  rw [hst]
  show wpAny _ _ (spliced ((false, eval (.GeneratorExp elt [⟨.Name x px, iter, [], 0⟩] sc gpos) X.env) :: backTo pos (starEach [] X.env))) _ _ s
  refine Calls.spliced_cons (gx_make (k := k) (Rel := noRel) hr TB hcode S hi he hs I h fun a s5 hB => Calls.spliced_nil ?_)
  obtain ⟨g, cd, H4, hgen, hfresh, I5, ha, wake⟩ := hB
  refine call_function_tree F.kind_all F.plain_all F.entry_all (F.args_all1 _) ?_
  unfold Builtin.«all»
  refine wpAny_bind (m := oneArg "all" _) (wpAny_pure (wpAny_bind (wpAny_pyIter_gen hgen ?_)))
  obtain ⟨Z, q, W, m0, fin, seg⟩ := wake X.A.in1.in1 none (s5.setGen g .running) ((hr.mono (by omega : k + 1 + 1 + 1 ≤ k + 3)).in1.in1) I.ok.frames (fun S z => by cases z) (fun _ _ e => e) rfl (allBare_setGen I5.bare rfl)
  refine wpAny_pure ⟨plainId_quiet F.plain_all_loop _, all_turns (Qb := fun b H => Q (.bl b) H) hr.hd hr.depth fin (fun b H' s' I' hq => ?_) (m0 + 1) s5 hgen I5.nolimit ⟨_, hfresh, rfl, seg⟩⟩
  exact ⟨.bl b, H', I', rfl, hq⟩
end
end Gx
namespace Gx
open PySem PySem.Spec PyProof.Rows L2 GenW
section
variable {X : Cx} {pins : List (Addr × Obj)} {σ : L2.St} {H : Hp} {s : Shared} {sc : Scope} {x : Str}
def MaxRel (ys : List V) (acc : Array Value) : Prop :=
  ∃ ns : List Int, ys = ns.map V.int ∧ ((ns = [] ∧ acc = #[]) ∨ ∃ b t, acc = #[.int b t, .int b t] ∧ b ∈ ns ∧ ∀ z ∈ ns, z ≤ b)
def NsMax (Qm : Int → Hp → Prop) : List V → Hp → Prop := fun ys H => ∃ ns : List Int, ys = ns.map V.int ∧ ns ≠ [] ∧ ∀ b, b ∈ ns → (∀ z ∈ ns, z ≤ b) → Qm b H
theorem map_int_inj {a b : List Int} (h : a.map V.int = b.map V.int) : a = b := by
  induction a generalizing b with
  | nil => cases b with
    | nil => rfl
    | cons _ _ => cases h
  | cons x a ih => cases b with
    | nil => cases h
    | cons y b =>
      rw [List.map_cons, List.map_cons] at h
      injection h with h1 h2
      injection h1 with h1
      rw [h1, ih h2]
theorem MaxRel.first {i : Int} {t : Tok} {ys : List V} (h : MaxRel ys #[]) : MaxRel (ys ++ [.int i]) #[.int i t, .int i t] := by
  obtain ⟨ns, rfl, h | ⟨b, u, e, _⟩⟩ := h
  · rw [h.1]
    exact ⟨[i], rfl, .inr ⟨i, t, rfl, by simp, by simp⟩⟩
  · have := congrArg Array.size e
    simp at this
theorem MaxRel.more {i b : Int} {t u : Tok} {ys : List V} (h : MaxRel ys #[.int b u, .int b u]) : MaxRel (ys ++ [.int i]) (if decide (i > b) = true then #[.int i t, .int i t] else #[.int b u, .int b u]) := by
  obtain ⟨ns, rfl, h | ⟨b', u', e, hb, hm⟩⟩ := h
  · have := congrArg Array.size h.2
    simp at this
  · have e' : b = b' := by
      have := congrArg (fun a : Array Value => a[0]?) e
      simp at this
      exact this.1
    subst e'
    refine ⟨ns ++ [i], by simp, .inr ?_⟩
    by_cases hi : i > b
    · rw [if_pos (decide_eq_true hi)]
      refine ⟨i, t, rfl, by simp, fun z hz => ?_⟩
      rcases List.mem_append.mp hz with q | q
      · exact Int.le_of_lt (Int.lt_of_le_of_lt (hm z q) hi)
      · rw [List.mem_singleton.mp q]; exact Int.le_refl _
    · rw [if_neg (by rw [decide_eq_false hi]; exact Bool.false_ne_true)]
      refine ⟨b, u, rfl, List.mem_append_left _ hb, fun z hz => ?_⟩
      rcases List.mem_append.mp hz with q | q
      · exact hm z q
      · rw [List.mem_singleton.mp q]; omega
theorem MaxRel.none {ys : List V} {Qm : Int → Hp → Prop} (h : MaxRel ys #[]) (q : NsMax Qm ys H) : False := by
  obtain ⟨ns, rfl, h | ⟨b', u', e, hb, hm⟩⟩ := h
  · obtain ⟨ms, e1, h2, _⟩ := q
    rw [h.1] at e1
    exact h2 (map_int_inj e1).symm
  · have := congrArg Array.size e
    simp at this
end
end Gx
namespace TG
open PySem L2
def top (i : Nat) : Stmt := PySem.Challenge.pw_tabgrow_k37_whole_one_sign_many_rubs.main.body.getD i (.Pass ⟨0, 0, 0, 0⟩)
abbrev s_is_whole : Stmt := top 20
abbrev s_is_sign : Stmt := top 21
abbrev s_is_text : Stmt := top 22
abbrev s_is_row : Stmt := top 23
abbrev s_misfit : Stmt := top 24
abbrev s_check_page : Stmt := top 25
abbrev s_check_style : Stmt := top 26
abbrev s_written : Stmt := top 28
abbrev s_rows_of : Stmt := top 29
abbrev s_begun : Stmt := top 38
abbrev s_take : Stmt := top 39
abbrev s_alike : Stmt := top 40
abbrev s_sign : Stmt := top 41
abbrev s_told : Stmt := top 42
abbrev s_due : Stmt := top 43
abbrev s_law : Stmt := top 44
/-- the built-ins that the text calls are the built-ins still -/
structure Txt (mg : Str → Option Value) : Prop where
  isin : mg "isinstance" = none
  len : mg "len" = none
  range : mg "range" = none
  max : mg "max" = none
  min : mg "min" = none
  all : mg "all" = none
  str : mg "str" = none
  int : mg "int" = none
  bool : mg "bool" = none
  list : mg "list" = none
  tuple : mg "tuple" = none
  enum : mg "enumerate" = none
  ord : mg "ord" = none
def BoxAt (H : Hp) (b l : Addr) : Prop := ∃ (ns : List Int) (st : Int), H b = some (.lst [.ref l, .int st]) ∧ H l = some (.lst (ns.map V.int)) ∧ ns.length ≤ 63
/-- all but the box stays -/
def KB (b l : Addr) (H H' : Hp) : Prop := ∀ c o, H c = some o → c ≠ b → c ≠ l → H' c = some o
theorem KB.refl {b l : Addr} {H : Hp} : KB b l H H := fun _ _ h _ _ => h
theorem KB.trans {b l : Addr} {H H1 H2 : Hp} (x : KB b l H H1) (y : KB b l H1 H2) : KB b l H H2 := fun c o h n m => y c o (x c o h n m) n m
theorem box_ne {H : Hp} {b l : Addr} (x : BoxAt H b l) : b ≠ l := by
  obtain ⟨ns, st, h1, h2, _⟩ := x
  refine ne_of h1 h2 fun z => ?_
  injection z with z
  cases ns with
  | nil => cases z
  | cons n ns =>
    rw [List.map_cons] at z
    injection z with z _
    cases z
theorem nz {i : Int} (h : i ≠ 0) : i ≠ 0 := h
theorem at0 {α : Type} {v : α} {xs : List α} : atI (v :: xs) 0 = some v := atI_nat (j := 0) rfl
theorem ix0 {n : Nat} : ixN (n + 1) 0 = some 0 := by
  unfold ixN
  rw [if_pos (by decide), if_pos (by omega)]
  rfl
theorem small0 : ([] : List V).length ≤ sizeLine := Nat.zero_le _
theorem dp_ints {K : PySem.W.Frag} {H : Hp} : ∀ ns : List Int, DpAll K H (ns.map V.int) (ns.map PyData.int)
  | [] => .nil
  | n :: ns => .cons (.int n) (dp_ints ns)
theorem canAll_ints : ∀ ns : List Int, PyData.canLayAll0 (ns.map PyData.int) = true
  | [] => rfl
  | _ :: r => by simp [PyData.canLayAll0, PyData.canLay0, canAll_ints r]
theorem depthAll_ints : ∀ ns : List Int, PyData.depthAll (ns.map PyData.int) = 0
  | [] => rfl
  | _ :: r => by simp [PyData.depthAll, PyData.depth, depthAll_ints r]
theorem shaped_of_ints (ns : List Int) : SeqAt.shaped (.list (ns.map PyData.int)) = true := by
  simp [SeqAt.shaped, PyData.canLay0, PyData.depth, canAll_ints, depthAll_ints]
def spTake : Sp := fun vs H Q _ => ∃ (b l : Addr) (many : Int), vs = [.ref b, .int many] ∧ BoxAt H b l ∧ 0 < many ∧ many < 1073741824 ∧
  ∀ (r : Int) (H' : Hp), 0 ≤ r → r < many → BoxAt H' b l → KB b l H H' → Q (.int r) H'
section
variable {P : Program} {w : World} {K : PySem.W.Frag} {mg : Str → Option Value} {base : Heap}
theorem sc_take : FnScope ["_law_box", "_law_many", "_law_number"] ["_law_box", "_law_many"] (defScope s_take) := ⟨rfl, rfl, rfl, by decide +kernel, rfl, by decide +kernel, by decide +kernel⟩
theorem ok_take {f : Addr} {fd : FuncData} (F : Fun K "_law_take" "_law_take" s_take f fd) : FnOk P w K mg base CX0 1 f fd ["_law_box", "_law_many"] spTake := by
  refine F.ok sc_take (fun vs H Q E h => ?_) (fun cdv A outer s H vs Q E hr h => ?_)
  · obtain ⟨b, l, many, rfl, _⟩ := h
    rfl
  · obtain ⟨b, l, many, rfl, hB, m0, m1, k⟩ := h
    have nd := sc_take.nd
    have hu := hr.units
    refine ⟨_, pss_cons (ps_if (pt_cmpR (op_eqD hu) (pe_ix ix_list (pv 0) pe_int (fun _ _ => rfl)) (pe_lst pa_nil) (nomark _))
        (pss_cons (ps_asg (pe_op op_modN (pe_op op_mul (pe_ix ix_list (pv 0) pe_int (fun _ _ => rfl)) pe_int) pe_int) (pg_sub (pv 0) pe_int set_list))
          (pss_one (ps_ret (pe_op op_modN (pe_op op_fdivN (pe_ix ix_list (pv 0) pe_int (fun _ _ => rfl)) pe_int) (pv 1))))) pss_nil)
      (pss_cons (ps_set (i := 2) nd rfl (.inl rfl) (pe_ix ix_list (pe_ix ix_list (pv 0) pe_int (fun _ _ => rfl)) pe_int (fun _ _ => rfl)))
      (pss_cons (ps_asg (pe_op op_fdivN (pv 2) (pv 1)) (pg_sub (pe_ix ix_list (pv 0) pe_int (fun _ _ => rfl)) pe_int set_list))
      (pss_cons (ps_if (PW.pt (pw_or (pt_cmpR op_eq (pe_ix ix_list (pe_ix ix_list (pv 0) pe_int (fun _ _ => rfl)) pe_int (fun _ _ => rfl)) pe_int (nomark _)) (pw_or1 (pt_cmpR op_eq (pe_ix ix_list (pe_ix ix_list (pv 0) pe_int (fun _ _ => rfl)) pe_int (fun _ _ => rfl)) (pe_un un_neg pe_int) (nomark _)))))
          (pss_one (ps_expr (pe_bm PySem.F.plainAttrs_list PySem.F.slot_list_pop PySem.F.type_list_pop mt_popAt (pe_ix ix_list (pv 0) pe_int (fun _ _ => rfl)) (pa_cons pe_int pa_nil)))) pss_nil)
      (pss_one (ps_ret (pe_op op_modN (pv 2) (pv 1))))))), ?_⟩
    obtain ⟨ns, st, h1, h2, h3⟩ := id hB
    have nbl := box_ne hB
    have len2 : ∀ o, (upd H b o) l = some (.lst (ns.map V.int)) := fun o => by rw [upd_ne nbl.symm]; exact h2
    -- _law_box[0] == []
    refine ⟨_, rfl, b, _, 0, .ref l, rfl, rfl, SqL.of h1, rfl, small0, fun p np => ?_⟩
    have npb : b ≠ p := ne_of_none h1 np
    have npl : l ≠ p := ne_of_none h2 np
    have g1 : (upd H p (.lst [])) b = some (.lst [.ref l, .int st]) := by rw [upd_ne npb]; exact h1
    have g2 : (upd H p (.lst [])) l = some (.lst (ns.map V.int)) := by rw [upd_ne npl]; exact h2
    have kp : KB b l H (upd H p (.lst [])) := fun c o e _ _ => by rw [upd_ne (ne_of_none e np)]; exact e
    refine ⟨.list (ns.map PyData.int), .list [], .lst (SqL.of g2) (dp_ints ns), .lst (SqL.of upd_same) .nil, shaped_of_ints ns, rfl, _, rfl, ?_⟩
    cases ns with
    | nil =>
      refine iteT ?_
      refine ⟨_, rfl, b, _, 1, .int st, rfl, rfl, SqL.of g1, rfl, st, 48271, rfl, rfl, .inr (by decide), _, _, rfl, rfl, nz (by decide), _, rfl, b, _, 1, 1, rfl, rfl, g1, rfl, ?_⟩
      refine ⟨_, rfl, b, _, 1, _, rfl, rfl, SqL.of upd_same, rfl, _, _, rfl, rfl, ⟨by decide, by decide⟩, _, rfl, _, _, rfl, rfl, nz (by omega), ?_⟩
      refine k _ _ (Int.fmod_nonneg_of_pos _ m0) (Int.fmod_lt_of_pos _ m0) ⟨[], _, upd_same, by rw [upd_ne nbl.symm]; exact g2, h3⟩ fun c o e hc hl => ?_
      rw [upd_ne hc]
      exact kp c o e hc hl
    | cons n ns =>
      refine iteF ?_
      refine ⟨_, rfl, b, _, 0, .ref l, rfl, rfl, SqL.of g1, rfl, l, _, 0, .int n, rfl, rfl, SqL.of g2, at0, ?_⟩
      refine ⟨_, rfl, _, rfl, n, many, rfl, rfl, ⟨by omega, by omega⟩, _, rfl, b, _, 0, .ref l, rfl, rfl, SqL.of g1, rfl, l, _, 0, 0, rfl, rfl, g2, ix0, ?_⟩
      have j1 : ∀ o, (upd (upd H p (.lst [])) l o) b = some (.lst [.ref l, .int st]) := fun o => by rw [upd_ne nbl]; exact g1
      have kl : ∀ o, KB b l H (upd (upd H p (.lst [])) l o) := fun o c u e hc hl => by rw [upd_ne hl]; exact kp c u e hc hl
      have fin : ∀ ms : List Int, ms.length ≤ 63 → Q (.int (n.fmod many)) (upd (upd H p (.lst [])) l (.lst (ms.map V.int))) := fun ms hm =>
        k _ _ (Int.fmod_nonneg_of_pos _ m0) (Int.fmod_lt_of_pos _ m0) ⟨ms, st, j1 _, upd_same, hm⟩ (kl _)
      have e0 : (List.map V.int (n :: ns)).set 0 (V.int (n.fdiv many)) = List.map V.int (n.fdiv many :: ns) := rfl
      rw [e0]
      -- == 0 or == -1
      refine ⟨_, rfl, b, _, 0, .ref l, rfl, rfl, SqL.of (j1 _), rfl, l, _, 0, .int (n.fdiv many), rfl, rfl, SqL.of upd_same, at0, rfl, _, rfl, ?_⟩
      have done : ∀ H', (∃ ms : List Int, ms.length ≤ 63 ∧ H' = upd (upd H p (.lst [])) l (.lst (ms.map V.int))) → ∃ v, ([some (V.ref b), some (V.int many), some (V.int n)] : L2.St)[2]? = some (some v) ∧ ∃ v_1, ([some (V.ref b), some (V.int many), some (V.int n)] : L2.St)[1]? = some (some v_1) ∧ ∃ i j, v = V.int i ∧ v_1 = V.int j ∧ j ≠ 0 ∧ Q (V.int (i.fmod j)) H' := fun H' ⟨ms, hm, e⟩ => by
        subst e
        exact ⟨_, rfl, _, rfl, n, many, rfl, rfl, nz (by omega), fin ms hm⟩
      have pop : ∀ Z : VK, (∀ y H', H' = upd (upd H p (.lst [])) l (.lst (ns.map V.int)) → Z y H') → rPopAt (.ref l) [.int 0] (upd (upd H p (.lst [])) l (.lst (List.map V.int (n.fdiv many :: ns)))) Z := fun Z hZ =>
        ⟨l, _, 0, 0, _, rfl, rfl, upd_same, by decide, by decide, by simp [seqIndex?], rfl, hZ _ _ (by rw [upd_upd]; rfl)⟩
      have h3' : ns.length ≤ 63 := by simp at h3; omega
      by_cases hz : n.fdiv many = 0
      · rw [decide_eq_true (show V.int (n.fdiv many) = V.int 0 by rw [hz])]
        refine iteT (iteT ⟨_, rfl, b, _, 0, .ref l, rfl, rfl, SqL.of (j1 _), rfl, .inl ⟨rfl, _, SqL.of upd_same⟩, pop _ fun y H' e => done H' ⟨ns, h3', e⟩⟩)
      · rw [decide_eq_false (show ¬ V.int (n.fdiv many) = V.int 0 from fun z => hz (by injection z))]
        refine iteF ⟨_, rfl, b, _, 0, .ref l, rfl, rfl, SqL.of (j1 _), rfl, l, _, 0, .int (n.fdiv many), rfl, rfl, SqL.of upd_same, at0, 1, rfl, rfl, _, rfl, ?_⟩
        refine ite2 (fun _ => ⟨_, rfl, b, _, 0, .ref l, rfl, rfl, SqL.of (j1 _), rfl, .inl ⟨rfl, _, SqL.of upd_same⟩, pop _ fun y H' e => done H' ⟨ns, h3', e⟩⟩) fun _ => ?_
        exact done _ ⟨n.fdiv many :: ns, h3, rfl⟩
end
end TG
namespace TG
open PySem L2
section
variable {P : Program} {w : World} {K : PySem.W.Frag} {mg : Str → Option Value} {base : Heap}
def spBegun (K : PySem.W.Frag) : Sp := fun vs H Q _ => ∃ (a : Addr) (ns : List Int), vs = [.ref a] ∧ SqL K H a (ns.map V.int) ∧ ns.length ≤ 63 ∧
  ∀ (b l : Addr) (H' : Hp), BoxAt H' b l → Same H H' → H b = none → H l = none → Q (.ref b) H'
theorem sc_begun : FnScope ["_law_script", "_law_stirred", "_law_cell"] ["_law_script"] (defScope s_begun) := ⟨rfl, rfl, rfl, by decide +kernel, rfl, by decide +kernel, by decide +kernel⟩
theorem ok_begun {f : Addr} {fd : FuncData} (T : Txt mg) (F : Fun K "_law_begun" "_law_begun" s_begun f fd) : FnOk P w K mg base CX0 1 f fd ["_law_script"] (spBegun K) := by
  refine F.ok sc_begun (fun vs H Q E h => ?_) (fun cdv A outer s H vs Q E hr h => ?_)
  · obtain ⟨a, ns, rfl, _⟩ := h
    rfl
  · obtain ⟨a, ns, rfl, hS, hl, k⟩ := h
    have nd := sc_begun.nd
    refine ⟨_, pss_cons (ps_set (i := 1) nd rfl (.inl rfl) pe_int) (pss_cons (ps_for PassesOwn.never rfl (pi_list (pv 0)) (pg_name (i := 2) nd rfl (.inl rfl))
        (pss_one (ps_set (i := 1) nd rfl (.inl rfl) (pe_op op_modN (pe_op op_add (pe_op op_add (pe_op op_mul (pv 1) pe_int) (pe_op op_mul (pv 2) pe_int)) pe_int) pe_int))))
      (pss_one (ps_ret (pe_lst (pa_cons (pe_callTy call_list_of (by rfl) T.list (by decide +kernel) (pa_cons (pv 0) pa_nil))
        (pa_cons (pe_op op_mul (pv 1) (pe_callTy call_int1 (by rfl) T.int (by decide +kernel) (pa_cons (pe_cmpR op_gt (pe_callB call_len_seq (by rfl) T.len PySem.boot_len (pa_cons (pv 0) pa_nil)) pe_int (nomark _)) pa_nil))) pa_nil)))))), ?_⟩
    refine ⟨_, rfl, a, rfl, ⟨_, hS⟩, for_list (xs := ns.map V.int) (fun _ σ H1 => H1 = H ∧ ∃ st c, σ = [some (.ref a), some (.int st), c]) ⟨rfl, 0, _, rfl⟩ (fun i σ H1 _ p => by rw [p.1]; exact hS) ?_ ?_⟩
    · rintro i x σ H1 hx ⟨rfl, st, c, rfl⟩
      obtain ⟨n, rfl⟩ : ∃ n, x = V.int n := by
        rw [List.getElem?_map] at hx
        cases e : ns[i]? with
        | none => rw [e] at hx; cases hx
        | some n => rw [e] at hx; cases hx; exact ⟨n, rfl⟩
      exact ⟨_, rfl, st, 48271, rfl, rfl, .inr (by decide), _, rfl, n, 69621, rfl, rfl, .inr (by decide), _, _, rfl, rfl, _, 11, rfl, rfl, _, 2147483647, rfl, rfl, nz (by decide), rfl, _, _, rfl⟩
    · rintro σ H1 ⟨rfl, st, c, rfl⟩
      refine ⟨_, rfl, a, _, rfl, .inl hS, fun l nl => ?_⟩
      have hS2 : SqL K (upd H1 l (.lst (ns.map V.int))) a (ns.map V.int) := by
        rcases hS with (z | ⟨o, z⟩) | z
        · exact .inl (.inl (by rw [upd_ne (ne_of_none z nl)]; exact z))
        · exact .inl (.inr ⟨o, by rw [upd_ne (ne_of_none z nl)]; exact z⟩)
        · exact .inr z
      refine ⟨_, rfl, _, rfl, a, _, rfl, .inl hS2, _, 2, rfl, rfl, .inr ⟨_, rfl, st, _, rfl, rfl, .inr (by split <;> decide), (by show 2 ≤ sizeLine; decide), fun b nb => ?_⟩⟩
      have nb1 : H1 b = none := by
        by_cases e : b = l
        · rw [e, upd_same] at nb; cases nb
        · rw [upd_ne e] at nb; exact nb
      have nlb : l ≠ b := fun z => by rw [← z, upd_same] at nb; cases nb
      refine k b l _ ⟨ns, _, upd_same, by rw [upd_ne nlb, upd_same], hl⟩ (fun c o e => ?_) nb1 nl
      rw [upd_ne (ne_of_none e nb1), upd_ne (ne_of_none e nl)]
      exact e
mutual
def dok : PyData → Bool
  | .list xs | .tuple xs => decide (xs.length ≤ 1000) && dokAll xs
  | .dict _ => false
  | .none | .bool _ | .int _ | .str _ => true
def dokAll : List PyData → Bool
  | [] => true
  | x :: xs => dok x && dokAll xs
end
theorem dokAll_get : ∀ {ds : List PyData} {i : Nat} {d : PyData}, dokAll ds = true → ds[i]? = some d → dok d = true
  | [], _, _, _, h => by simp at h
  | x :: xs, 0, d, h, e => by
    simp only [dokAll, Bool.and_eq_true] at h
    cases e
    exact h.1
  | x :: xs, i + 1, d, h, e => by
    simp only [dokAll, Bool.and_eq_true] at h
    exact dokAll_get h.2 (by simpa using e)
theorem depthAll_get : ∀ {ds : List PyData} {i : Nat} {d : PyData}, ds[i]? = some d → d.depth ≤ PyData.depthAll ds
  | [], _, _, h => by simp at h
  | x :: xs, 0, d, e => by
    cases e
    simp only [PyData.depthAll]
    exact Nat.le_max_left _ _
  | x :: xs, i + 1, d, e => by
    simp only [PyData.depthAll]
    exact Nat.le_trans (depthAll_get (i := i) (by simpa using e)) (Nat.le_max_right _ _)
theorem dp_len {H : Hp} : ∀ {vs : List V} {ds : List PyData}, DpAll K H vs ds → vs.length = ds.length
  | [], [], _ => rfl
  | _ :: _, _ :: _, h => by
    cases h with
    | cons _ t => rw [List.length_cons, List.length_cons, dp_len t]
theorem dp_get {H : Hp} : ∀ {vs : List V} {ds : List PyData} {i : Nat} {v : V}, DpAll K H vs ds → vs[i]? = some v → ∃ d, ds[i]? = some d ∧ Dp K H v d
  | [], [], _, _, _, h => by simp at h
  | x :: vs, y :: ds, 0, v, h, e => by
    cases h with
    | cons h1 _ =>
      cases e
      exact ⟨y, rfl, h1⟩
  | x :: vs, y :: ds, i + 1, v, h, e => by
    cases h with
    | cons _ h2 => simpa using dp_get (i := i) h2 (by simpa using e)
theorem ty_list {H : Hp} {a : Addr} {xs : List V} (h : SqL K H a xs) : TyX K H (.ref a) (.type "list") := by
  rcases h with (z | ⟨o, z⟩) | ⟨o, its, n, z, c, _⟩
  · exact .base (.lst z)
  · exact .base (.frz z)
  · exact .kList z c
theorem ty_tup {H : Hp} {a : Addr} {xs : List V} (h : SqT K H a xs) : TyX K H (.ref a) (.type "tuple") := by
  rcases h with (z | ⟨o, z⟩) | ⟨o, its, n, z, c, _⟩
  · exact .base (.tup z)
  · exact .fTuple z
  · exact .kTuple z c
def spAlike (K : PySem.W.Frag) (n : Nat) : Sp := fun vs H Q _ => ∃ (x y : V) (d : PyData), vs = [x, y] ∧ Dp K H x d ∧ Dp K H y d ∧ d.depth < n ∧ dok d = true ∧ Q (.bl true) H
theorem sc_alike : FnScope ["_law_found", "_law_due_here", "_law_k"] ["_law_found", "_law_due_here"] (defScope s_alike) := ⟨rfl, rfl, rfl, by decide +kernel, rfl, by decide +kernel, by decide +kernel⟩
theorem ok_alike {f : Addr} {fd : FuncData} (T : Txt mg) (F : Fun K "_law_alike" "_law_alike" s_alike f fd) (b : Binds K fd ["_law_found", "_law_due_here"] []) (mgf : mg "_law_alike" = some (.ref f)) : ∀ n, FnOk P w K mg base CX0 (n + 1) f fd ["_law_found", "_law_due_here"] (spAlike K n) := by
  intro n
  induction n with
  | zero =>
    refine F.ok sc_alike (fun vs H Q E h => ?_) (fun cdv A outer s H vs Q E hr h => ?_)
    · obtain ⟨x, y, d, rfl, _⟩ := h
      rfl
    · obtain ⟨x, y, d, rfl, _, _, h, _⟩ := h
      exact absurd h (Nat.not_lt_zero _)
  | succ n G =>
    refine F.ok sc_alike (fun vs H Q E h => ?_) (fun cdv A outer s H vs Q E hr h => ?_)
    · obtain ⟨x, y, d, rfl, _⟩ := h
      rfl
    · obtain ⟨x, y, d, rfl, hx, hy, hd, hk, k⟩ := h
      have nd := sc_alike.nd
      refine ⟨_, pss_cons (ps_if (pt_cmpR op_isN (pv 1) pe_non (nomark _)) (pss_one (ps_ret (pe_cmpR op_isN (pv 0) pe_non (nomark _)))) pss_nil)
        (pss_cons (ps_if (pt_val (pe_callB call_isi (by rfl) T.isin (by decide +kernel) (pa_cons (pv 1) (pa_cons (pe_bltn (v := .ty "bool") (by rfl) T.bool (by decide +kernel) rfl) pa_nil)))) (pss_one (ps_ret (pe_and (pe_callB call_isi (by rfl) T.isin (by decide +kernel) (pa_cons (pv 0) (pa_cons (pe_bltn (v := .ty "bool") (by rfl) T.bool (by decide +kernel) rfl) pa_nil))) (pe_one (pe_cmpR op_eq (pv 0) (pv 1) (nomark _)))))) pss_nil)
        (pss_cons (ps_if (pt_val (pe_callB call_isi (by rfl) T.isin (by decide +kernel) (pa_cons (pv 1) (pa_cons (pe_bltn (v := .ty "int") (by rfl) T.int (by decide +kernel) rfl) pa_nil)))) (pss_one (ps_ret (pe_and (pe_callB call_isi (by rfl) T.isin (by decide +kernel) (pa_cons (pv 0) (pa_cons (pe_bltn (v := .ty "int") (by rfl) T.int (by decide +kernel) rfl) pa_nil))) (pe_and (pe_not (pe_callB call_isi (by rfl) T.isin (by decide +kernel) (pa_cons (pv 0) (pa_cons (pe_bltn (v := .ty "bool") (by rfl) T.bool (by decide +kernel) rfl) pa_nil)))) (pe_one (pe_cmpR op_eq (pv 0) (pv 1) (nomark _))))))) pss_nil)
        (pss_cons (ps_if (pt_val (pe_callB call_isi (by rfl) T.isin (by decide +kernel) (pa_cons (pv 1) (pa_cons (pe_bltn (v := .ty "str") (by rfl) T.str (by decide +kernel) rfl) pa_nil)))) (pss_one (ps_ret (pe_and (pe_callB call_isi (by rfl) T.isin (by decide +kernel) (pa_cons (pv 0) (pa_cons (pe_bltn (v := .ty "str") (by rfl) T.str (by decide +kernel) rfl) pa_nil))) (pe_one (pe_cmpR op_eq (pv 0) (pv 1) (nomark _)))))) pss_nil)
        (pss_cons (ps_if (PW.pt (pw_or (pt_cmpR op_ne (pe_callB call_isi (by rfl) T.isin (by decide +kernel) (pa_cons (pv 1) (pa_cons (pe_bltn (v := .ty "tuple") (by rfl) T.tuple (by decide +kernel) rfl) pa_nil))) (pe_callB call_isi (by rfl) T.isin (by decide +kernel) (pa_cons (pv 0) (pa_cons (pe_bltn (v := .ty "tuple") (by rfl) T.tuple (by decide +kernel) rfl) pa_nil))) (nomark _))
            (pw_or1 (pt_cmpR op_ne (pe_callB call_isi (by rfl) T.isin (by decide +kernel) (pa_cons (pv 1) (pa_cons (pe_bltn (v := .ty "list") (by rfl) T.list (by decide +kernel) rfl) pa_nil))) (pe_callB call_isi (by rfl) T.isin (by decide +kernel) (pa_cons (pv 0) (pa_cons (pe_bltn (v := .ty "list") (by rfl) T.list (by decide +kernel) rfl) pa_nil))) (nomark _))))) (pss_one (ps_ret pe_bl)) pss_nil)
        (pss_cons (ps_if (pt_cmpR op_ne (pe_callB call_len_seq (by rfl) T.len PySem.boot_len (pa_cons (pv 0) pa_nil)) (pe_callB call_len_seq (by rfl) T.len PySem.boot_len (pa_cons (pv 1) pa_nil)) (nomark _)) (pss_one (ps_ret pe_bl)) pss_nil)
        (pss_cons (ps_for PassesOwn.never rfl (pi_range1 (by rfl) T.range (pa_cons (pe_callB call_len_seq (by rfl) T.len PySem.boot_len (pa_cons (pv 1) pa_nil)) pa_nil)) (pg_name (i := 2) nd rfl (.inl rfl))
          (pss_one (ps_if (pt_not (pt_val (pe_call G hr (by rfl) mgf F.kp b .nil pass0 (pa_cons (pe_ix ix_seq (pv 0) (pv 2) (fun _ _ => rfl)) (pa_cons (pe_ix ix_seq (pv 1) (pv 2) (fun _ _ => rfl)) pa_nil))))) (pss_one (ps_ret pe_bl)) pss_nil)))
        (pss_one (ps_ret pe_bl)))))))), ?_⟩
      cases hx with
      | non =>
        cases hy
        exact ⟨_, rfl, rfl, true, rfl, iteT ⟨_, rfl, rfl, k⟩⟩
      | bl c =>
        cases hy
        exact ⟨_, rfl, rfl, false, rfl, iteF ⟨_, rfl, _, _, _, _, true, rfl, .ty _, (.base (.bl c)), kit_ty (by decide +kernel), true, rfl, iteT ⟨_, rfl, _, _, _, _, true, rfl, .ty _, (.base (.bl c)), kit_ty (by decide +kernel), true, rfl, iteT ⟨_, rfl, _, rfl, rfl, by simpa using k⟩⟩⟩⟩
      | int i =>
        cases hy
        exact ⟨_, rfl, rfl, false, rfl, iteF ⟨_, rfl, _, _, _, _, false, rfl, .ty _, (.base (.int i)), kit_ty (by decide +kernel), false, rfl, iteF ⟨_, rfl, _, _, _, _, true, rfl, .ty _, (.base (.int i)), kit_ty (by decide +kernel), true, rfl, iteT ⟨_, rfl, _, _, _, _, true, rfl, .ty _, (.base (.int i)), kit_ty (by decide +kernel), true, rfl, iteT
          ⟨_, rfl, _, _, _, _, false, rfl, .ty _, (.base (.int i)), kit_ty (by decide +kernel), false, rfl, true, rfl, iteT ⟨_, rfl, _, rfl, rfl, by simpa using k⟩⟩⟩⟩⟩⟩
      | str z =>
        cases hy
        exact ⟨_, rfl, rfl, false, rfl, iteF ⟨_, rfl, _, _, _, _, false, rfl, .ty _, (.base (.str z)), kit_ty (by decide +kernel), false, rfl, iteF ⟨_, rfl, _, _, _, _, false, rfl, .ty _, (.base (.str z)), kit_ty (by decide +kernel), false, rfl, iteF ⟨_, rfl, _, _, _, _, true, rfl, .ty _, (.base (.str z)), kit_ty (by decide +kernel), true, rfl, iteT
          ⟨_, rfl, _, _, _, _, true, rfl, .ty _, (.base (.str z)), kit_ty (by decide +kernel), true, rfl, iteT ⟨_, rfl, _, rfl, rfl, by simpa using k⟩⟩⟩⟩⟩⟩
      | @lst p xs ds sx ax =>
        cases hy with
        | @lst q ys _ sy ay =>
          refine ⟨_, rfl, rfl, false, rfl, iteF ⟨_, rfl, _, _, _, _, false, rfl, .ty _, (ty_list sy), kit_ty (by decide +kernel), false, rfl, iteF ⟨_, rfl, _, _, _, _, false, rfl, .ty _, (ty_list sy), kit_ty (by decide +kernel), false, rfl, iteF ⟨_, rfl, _, _, _, _, false, rfl, .ty _, (ty_list sy), kit_ty (by decide +kernel), false, rfl, iteF
            ⟨_, rfl, _, _, _, _, false, rfl, .ty _, (ty_list sy), kit_ty (by decide +kernel), _, rfl, _, _, _, _, false, rfl, .ty _, (ty_list sx), kit_ty (by decide +kernel), rfl, false, rfl, iteF ⟨_, rfl, _, _, _, _, true, rfl, .ty _, (ty_list sy), kit_ty (by decide +kernel), _, rfl, _, _, _, _, true, rfl, .ty _, (ty_list sx), kit_ty (by decide +kernel), rfl, false, rfl, iteF ?_⟩⟩⟩⟩⟩⟩
          simp only [dok, Bool.and_eq_true, decide_eq_true_eq] at hk
          simp only [PyData.depth] at hd
          have lx := dp_len ax
          have ly := dp_len ay
          refine ⟨_, rfl, p, xs, rfl, .inl sx, _, rfl, q, ys, rfl, .inl sy, rfl, false, by rw [lx, ly]; simp, iteF ?_⟩
          refine ⟨_, rfl, q, ys, rfl, .inl sy, _, rfl, by omega, by omega, for_range (n := (ys.length : Int).toNat) (fun _ σ H' => H' = H ∧ ∃ c, σ = [some (.ref p), some (.ref q), c]) ⟨rfl, _, rfl⟩ ?_ ?_⟩
          · rintro i σ H' hi ⟨rfl, c, rfl⟩
            have hi1 : i < xs.length := by omega
            have hi2 : i < ys.length := by omega
            obtain ⟨d1, e1, dx⟩ := dp_get ax (List.getElem?_eq_getElem hi1)
            obtain ⟨d2, e2, dy⟩ := dp_get ay (List.getElem?_eq_getElem hi2)
            rw [e1] at e2
            cases e2
            refine ⟨_, rfl, _, rfl, .inl ⟨p, xs, _, _, rfl, rfl, sx, by rw [Int.zero_add]; exact atI_nat (List.getElem?_eq_getElem hi1), ⟨_, rfl, _, rfl, .inl ⟨q, ys, _, _, rfl, rfl, sy, by rw [Int.zero_add]; exact atI_nat (List.getElem?_eq_getElem hi2), ?_⟩⟩⟩⟩
            exact ⟨_, _, d1, rfl, dx, dy, by have := depthAll_get e1; omega, dokAll_get hk.2 e1, true, rfl, iteF ⟨rfl, _, rfl⟩⟩
          · rintro σ H' ⟨rfl, c, rfl⟩
            exact k
      | @tup p xs ds sx ax =>
        cases hy with
        | @tup q ys _ sy ay =>
          refine ⟨_, rfl, rfl, false, rfl, iteF ⟨_, rfl, _, _, _, _, false, rfl, .ty _, (ty_tup sy), kit_ty (by decide +kernel), false, rfl, iteF ⟨_, rfl, _, _, _, _, false, rfl, .ty _, (ty_tup sy), kit_ty (by decide +kernel), false, rfl, iteF ⟨_, rfl, _, _, _, _, false, rfl, .ty _, (ty_tup sy), kit_ty (by decide +kernel), false, rfl, iteF
            ⟨_, rfl, _, _, _, _, true, rfl, .ty _, (ty_tup sy), kit_ty (by decide +kernel), _, rfl, _, _, _, _, true, rfl, .ty _, (ty_tup sx), kit_ty (by decide +kernel), rfl, false, rfl, iteF ⟨_, rfl, _, _, _, _, false, rfl, .ty _, (ty_tup sy), kit_ty (by decide +kernel), _, rfl, _, _, _, _, false, rfl, .ty _, (ty_tup sx), kit_ty (by decide +kernel), rfl, false, rfl, iteF ?_⟩⟩⟩⟩⟩⟩
          simp only [dok, Bool.and_eq_true, decide_eq_true_eq] at hk
          simp only [PyData.depth] at hd
          have lx := dp_len ax
          have ly := dp_len ay
          refine ⟨_, rfl, p, xs, rfl, .inr sx, _, rfl, q, ys, rfl, .inr sy, rfl, false, by rw [lx, ly]; simp, iteF ?_⟩
          refine ⟨_, rfl, q, ys, rfl, .inr sy, _, rfl, by omega, by omega, for_range (n := (ys.length : Int).toNat) (fun _ σ H' => H' = H ∧ ∃ c, σ = [some (.ref p), some (.ref q), c]) ⟨rfl, _, rfl⟩ ?_ ?_⟩
          · rintro i σ H' hi ⟨rfl, c, rfl⟩
            have hi1 : i < xs.length := by omega
            have hi2 : i < ys.length := by omega
            obtain ⟨d1, e1, dx⟩ := dp_get ax (List.getElem?_eq_getElem hi1)
            obtain ⟨d2, e2, dy⟩ := dp_get ay (List.getElem?_eq_getElem hi2)
            rw [e1] at e2
            cases e2
            refine ⟨_, rfl, _, rfl, .inr (.inl ⟨p, xs, _, _, rfl, rfl, sx, by rw [Int.zero_add]; exact atI_nat (List.getElem?_eq_getElem hi1), ⟨_, rfl, _, rfl, .inr (.inl ⟨q, ys, _, _, rfl, rfl, sy, by rw [Int.zero_add]; exact atI_nat (List.getElem?_eq_getElem hi2), ?_⟩)⟩⟩)⟩
            exact ⟨_, _, d1, rfl, dx, dy, by have := depthAll_get e1; omega, dokAll_get hk.2 e1, true, rfl, iteF ⟨rfl, _, rfl⟩⟩
          · rintro σ H' ⟨rfl, c, rfl⟩
            exact k
end
end TG
namespace Gx
open PySem PySem.Spec PyProof.Rows L2 GenW
section
variable {J : It} {n : Nat} {G : Hp → Prop} {Y : Nat → Hp → V → Hp → Prop}
/-- all over a walk whose i-th element is f i -/
theorem all_by (w : Walk J n G Y) {te : TE} {Q : VK} {H2 : Hp} (f : Nat → Bool) (Pv : Nat → Hp → Prop) (h0 : Pv 0 H2) (hG : ∀ i H, i ≤ n → Pv i H → G H)
    (hs : ∀ i v H H', i < n → Pv i H → Y i H v H' → ∀ Z : VK, (∀ H3, Pv (i + 1) H3 → Z (.bl (f i)) H3) → te [some v] H' Z)
    (hT : ∀ H, Pv n H → (∀ i, i < n → f i = true) → Q (.bl true) H) (hF : ∀ i H, i < n → f i = false → Pv (i + 1) H → Q (.bl false) H) :
    ∃ W : WT, (∃ m, W m [] H2) ∧ ∀ m ys H, W m ys H → (J.stop ys.length H ∧ (fun (_ : List V) H => Q (.bl true) H) ys H) ∨
      (J.go ys.length H ∧ ∀ v H', J.yld ys.length H v H' → te [some v] H' (NyAll (fun b H => Q (.bl b) H) W m ys)) := by
  refine ⟨fun m ys H => m = n - ys.length ∧ ys.length ≤ n ∧ Pv ys.length H ∧ ∀ i, i < ys.length → f i = true, ⟨n, by simp, Nat.zero_le _, h0, fun i hi => absurd hi (Nat.not_lt_zero _)⟩, ?_⟩
  rintro m ys H ⟨rfl, hl, hp, ht⟩
  have q := hG _ H hl hp
  by_cases hlt : ys.length < n
  · refine .inr ⟨w.goes _ H hlt q, fun v H' y => hs _ v H H' hlt hp (w.yields _ H v H' hlt q y) _ fun H3 p3 => ⟨f ys.length, rfl, ?_⟩⟩
    cases hf : f ys.length with
    | true =>
      refine iteT ⟨n - (ys.length + 1), by omega, by rw [List.length_append, List.length_singleton], by rw [List.length_append, List.length_singleton]; exact hlt, by rw [List.length_append, List.length_singleton]; exact p3, fun i hi => ?_⟩
      rw [List.length_append, List.length_singleton] at hi
      by_cases e : i = ys.length
      · rw [e]; exact hf
      · exact ht i (by omega)
    | false => exact iteF (hF _ H3 hlt hf p3)
  · have e : ys.length = n := by omega
    exact .inl ⟨by rw [e]; exact w.stops H q, hT H (e ▸ hp) fun i hi => ht i (by omega)⟩
end
def Tabs (cs : List (Addr × Addr)) (H : Hp) : Prop := ∀ p ∈ cs, GxR.TabG H p.2
theorem tab_ext {P : Addr} {H H' : Hp} (t : GxR.TabG H P) (x : GxR.Tabbed P H H') : LamX.ExtN H H' := fun b o e n => by
  by_cases hb : b = P
  · obtain ⟨ps, h1, _⟩ := t
    rw [hb, h1] at e
    cases e
    exact absurd rfl (n ps)
  · rw [x.2 b hb]; exact e
theorem tabs_tab {cs : List (Addr × Addr)} {P : Addr} {H H' : Hp} (t : Tabs cs H) (x : GxR.Tabbed P H H') : Tabs cs H' := fun p hp => by
  by_cases hb : p.2 = P
  · rw [hb]; exact x.1
  · obtain ⟨ps, h1, h2⟩ := t p hp
    exact ⟨ps, by rw [x.2 _ hb]; exact h1, h2⟩
/-- all but tables stays, the tables are tables -/
structure Ex (cs : List (Addr × Addr)) (H H' : Hp) : Prop where
  ext : LamX.ExtN H H'
  tab : Tabs cs H'
  old : ∀ b, H' b = none → H b = none
  oth : ∀ b o, H b = some o → (∀ p ∈ cs, p.2 ≠ b) → H' b = some o
theorem Ex.refl {cs : List (Addr × Addr)} {H : Hp} (t : Tabs cs H) : Ex cs H H := ⟨LamX.ExtN.refl H, t, fun _ h => h, fun _ _ e _ => e⟩
theorem Ex.trans {cs : List (Addr × Addr)} {H H1 H2 : Hp} (a : Ex cs H H1) (b : Ex cs H1 H2) : Ex cs H H2 := ⟨a.ext.trans b.ext, b.tab, fun c h => a.old c (b.old c h), fun c o e m => b.oth c o (a.oth c o e m) m⟩
theorem Ex.tabbed {cs : List (Addr × Addr)} {q : Addr × Addr} {H H' : Hp} (t : Tabs cs H) (m : q ∈ cs) (x : GxR.Tabbed q.2 H H') : Ex cs H H' := ⟨tab_ext (t q m) x, tabs_tab t x, fun b h => by
  by_cases hb : b = q.2
  · obtain ⟨ps, h1, _⟩ := x.1
    rw [hb, h1] at h
    cases h
  · rw [x.2 b hb] at h; exact h, fun b o e n => by
  rw [x.2 b (fun z => n q m z.symm)]
  exact e⟩
theorem upd_none {H : Hp} {a b : Addr} {o : HO} (h : upd H a o b = none) : H b = none ∧ b ≠ a := by
  by_cases hb : b = a
  · rw [hb, upd_same] at h; cases h
  · rw [upd_ne hb] at h; exact ⟨h, hb⟩
theorem Ex.laid {cs : List (Addr × Addr)} {H : Hp} {a : Addr} {o : HO} (t : Tabs cs H) (n : H a = none) : Ex cs H (upd H a o) :=
  ⟨fun b u e _ => by rw [upd_ne (ne_of_none e n)]; exact e, fun p hp => by
    obtain ⟨ps, h1, h2⟩ := t p hp
    exact ⟨ps, by rw [upd_ne (ne_of_none h1 n)]; exact h1, h2⟩, fun b h => (upd_none h).1, fun b u e _ => by
    rw [upd_ne (ne_of_none e n)]
    exact e⟩
/-- a new object, written again -/
theorem ex_new {cs : List (Addr × Addr)} {H H' : Hp} {D : Addr} {o : HO} (t : Tabs cs H) (e : Ex cs H H') (n : H D = none) : Ex cs H (upd H' D o) :=
  ⟨fun b u h m => by rw [upd_ne (ne_of_none h n)]; exact e.ext b u h m, fun p hp => by
    obtain ⟨ps, h1, _⟩ := t p hp
    obtain ⟨ps', h3, h4⟩ := e.tab p hp
    exact ⟨ps', by rw [upd_ne (ne_of_none h1 n)]; exact h3, h4⟩, fun b h => e.old b (upd_none h).1, fun b u h m => by
    rw [upd_ne (ne_of_none h n)]
    exact e.oth b u h m⟩
theorem Ex.lst {cs : List (Addr × Addr)} {H H' : Hp} {a : Addr} {xs : List V} (e : Ex cs H H') (h : H a = some (.lst xs)) : H' a = some (.lst xs) := e.ext _ _ h fun ps q => by cases q
theorem Ex.tup {cs : List (Addr × Addr)} {H H' : Hp} {a : Addr} {xs : List V} (e : Ex cs H H') (h : H a = some (.tup xs)) : H' a = some (.tup xs) := e.ext _ _ h fun ps q => by cases q
theorem Ex.sqL {cs : List (Addr × Addr)} {K : PySem.W.Frag} {H H' : Hp} {a : Addr} {xs : List V} (e : Ex cs H H') (h : SqL K H a xs) : SqL K H' a xs := by
  rcases h with (z | ⟨o, z⟩) | z
  · exact .inl (.inl (e.ext _ _ z fun ps q => by cases q))
  · exact .inl (.inr ⟨o, e.ext _ _ z fun ps q => by cases q⟩)
  · exact .inr z
theorem Ex.sqT {cs : List (Addr × Addr)} {K : PySem.W.Frag} {H H' : Hp} {a : Addr} {xs : List V} (e : Ex cs H H') (h : SqT K H a xs) : SqT K H' a xs := by
  rcases h with (z | ⟨o, z⟩) | z
  · exact .inl (.inl (e.ext _ _ z fun ps q => by cases q))
  · exact .inl (.inr ⟨o, e.ext _ _ z fun ps q => by cases q⟩)
  · exact .inr z
/-- a def whose code object is known -/
theorem fun_okT {P : Program} {w : World} {K : PySem.W.Frag} {mg : Str → Option Value} {base : Heap} {x qual : Str} {st : Stmt} {f c : Addr} {fd : FuncData} {N ps : List Str} {k : Nat} {sp : Sp} (F : Fun K x qual st f fd) (hc : fd.code = .ref c) (S : FnScope N ps (defScope st)) (len : ∀ vs H Q E, sp vs H Q E → vs.length = ps.length)
    (hbody : ∀ (A : Around) (outer : List Env) (s : Shared) (H : Hp) (vs : List V) (Q : VK) (E : XK), Room k (A.deeper (envOfC qual (defScope st) s.heap.objs.size f (.ref c))) → sp vs H Q E →
      ∃ t, PSs (cxOf CX0 P w K mg base N qual (defScope st) f (.ref c) A outer s H E).nox (defBody st) t ∧ t { nx := fun _ H' => Q .non H', rt := Q } (start N vs) H) : FnOk P w K mg base CX0 (k + 1) f fd ps sp := by
  obtain ⟨oc, od, kV, doc, pm, an, cdv, ct, osl, rfl, lk, hcd⟩ := F.ex
  have e : cdv = .ref c := hc
  subst e
  refine fn_of lk hcd S len fun A outer s H vs Q E hr hsp => ?_
  obtain ⟨t, h, q⟩ := hbody A outer s H vs Q E hr hsp
  exact ⟨t, h.nox, q⟩
end Gx
namespace TG
open PySem L2 Gx
def SgOk (c : Nat) : Prop := 32 ≤ c ∧ c ≤ 126 ∧ c ≠ 37
structure CellOk (z : Str) : Prop where
  len : z.length ≤ 10
  sg : ∀ c ∈ z.cps.toList, SgOk c
structure RowOk (r : List Str) : Prop where
  pos : 1 ≤ r.length
  len : r.length ≤ 6
  cells : ∀ z ∈ r, CellOk z
abbrev sV (r : List Str) : List V := r.map V.str
theorem line10 {n : Nat} (h : n ≤ 1000) : n ≤ sizeLine := Nat.le_trans h (by decide)
theorem dT {c : Prop} [Decidable c] (h : c) : V.bl (decide c) = V.bl true := by rw [decide_eq_true h]
theorem dF {c : Prop} [Decidable c] (h : ¬ c) : V.bl (decide c) = V.bl false := by rw [decide_eq_false h]
theorem qT {c : Prop} [Decidable c] {Q : VK} {H : Hp} (h : c) (k : Q (.bl true) H) : Q (.bl (decide c)) H := by rw [decide_eq_true h]; exact k
theorem qN {c : Prop} [Decidable c] {Q : VK} {H : Hp} (h : ¬ c) (k : Q (.bl true) H) : Q (.bl (!decide c)) H := by rw [decide_eq_false h]; exact k
structure Consts (mg : Str → Option Value) : Prop where
  blank : ∃ t, mg "BLANK" = some (.int 32 t)
  tilde : ∃ t, mg "TILDE" = some (.int 126 t)
  percent : ∃ t, mg "PERCENT" = some (.int 37 t)
  rows : ∃ t, mg "MOST_ROWS" = some (.int 30 t)
  cells : ∃ t, mg "MOST_CELLS" = some (.int 6 t)
  signs : ∃ t, mg "MOST_SIGNS" = some (.int 10 t)
  gap : ∃ t, mg "MOST_GAP" = some (.int 4 t)
  least : ∃ t, mg "MOST_LEAST" = some (.int 12 t)
section
variable {P : Program} {w : World} {K : PySem.W.Frag} {mg : Str → Option Value} {base : Heap}
def spWhole : Sp := fun vs H Q _ => ∃ (i lo hi : Int), vs = [.int i, .int lo, .int hi] ∧ lo ≤ i ∧ i ≤ hi ∧ Q (.bl true) H
theorem sc_whole : FnScope ["value", "low", "high"] ["value", "low", "high"] (defScope s_is_whole) := ⟨rfl, rfl, rfl, by decide +kernel, rfl, by decide +kernel, by decide +kernel⟩
theorem ok_whole {f : Addr} {fd : FuncData} (T : Txt mg) (F : Fun K "is_whole" "is_whole" s_is_whole f fd) : FnOk P w K mg base CX0 1 f fd ["value", "low", "high"] spWhole := by
  refine F.ok sc_whole (fun vs H Q E h => ?_) (fun cdv A outer s H vs Q E hr h => ?_)
  · obtain ⟨i, lo, hi, rfl, _⟩ := h
    rfl
  · obtain ⟨i, lo, hi, rfl, h1, h2, k⟩ := h
    refine ⟨_, pss_one (ps_ret (pe_and (pe_callB call_isi (by rfl) T.isin (by decide +kernel) (pa_cons (pv 0) (pa_cons (pe_bltn (v := .ty "int") (by rfl) T.int (by decide +kernel) rfl) pa_nil)))
      (pe_and (pe_not (pe_callB call_isi (by rfl) T.isin (by decide +kernel) (pa_cons (pv 0) (pa_cons (pe_bltn (v := .ty "bool") (by rfl) T.bool (by decide +kernel) rfl) pa_nil)))) (pe_one (pe_chain op_le op_le (pv 1) (pv 0) (pv 2)))))), ?_⟩
    exact ⟨_, rfl, _, _, _, _, true, rfl, .ty _, .base (.int i), kit_ty (by decide +kernel), true, rfl, iteT ⟨_, rfl, _, _, _, _, false, rfl, .ty _, .base (.int i), kit_ty (by decide +kernel), false, rfl, true, rfl, iteT
      ⟨_, rfl, _, rfl, lo, i, rfl, rfl, true, dT h1, iteT ⟨_, rfl, i, hi, rfl, rfl, qT h2 k⟩⟩⟩⟩
def spSg : Sp := fun vs H Q _ => ∃ c : Nat, vs = [.str ⟨#[c]⟩] ∧ SgOk c ∧ Q (.bl true) H
theorem sc_sg : FnScope ["sign"] ["sign"] (defScope s_is_sign) := ⟨rfl, rfl, rfl, by decide +kernel, rfl, by decide +kernel, by decide +kernel⟩
theorem ok_sg {f : Addr} {fd : FuncData} (T : Txt mg) (N : Consts mg) (F : Fun K "is_sign" "is_sign" s_is_sign f fd) : FnOk P w K mg base CX0 1 f fd ["sign"] spSg := by
  refine F.ok sc_sg (fun vs H Q E h => ?_) (fun cdv A outer s H vs Q E hr h => ?_)
  · obtain ⟨c, rfl, _⟩ := h
    rfl
  · obtain ⟨c, rfl, ⟨h1, h2, h3⟩, k⟩ := h
    obtain ⟨t1, e1⟩ := N.blank
    obtain ⟨t2, e2⟩ := N.tilde
    obtain ⟨t3, e3⟩ := N.percent
    refine ⟨_, pss_one (ps_ret (pe_and (pe_chain op_le op_le (pe_glob (v := .int 32) rfl e1 ⟨_, rfl⟩) (pe_callB call_ord (by rfl) T.ord (by decide +kernel) (pa_cons (pv 0) pa_nil)) (pe_glob (v := .int 126) rfl e2 ⟨_, rfl⟩))
      (pe_one (pe_cmpR op_ne (pe_callB call_ord (by rfl) T.ord (by decide +kernel) (pa_cons (pv 0) pa_nil)) (pe_glob (v := .int 37) rfl e3 ⟨_, rfl⟩) (nomark _))))), ?_⟩
    refine ⟨_, rfl, _, rfl, rfl, 32, (c : Int), rfl, rfl, true, dT (show (32 : Int) ≤ c by omega), iteT ⟨(c : Int), 126, rfl, rfl, ?_⟩⟩
    have e4 : V.bl (decide ((c : Int) ≤ 126)) = V.bl true := dT (by omega)
    refine ⟨true, e4, iteT ⟨_, rfl, _, rfl, rfl, rfl, qN (fun z => ?_) k⟩⟩
    injection z with z
    exact h3 (Int.ofNat.inj z)
def spText (cs : List (Addr × Addr)) : Sp := fun vs H Q _ => ∃ (z : Str) (m : Int), vs = [.str z, .int m] ∧ Tabs cs H ∧ (z.length : Int) ≤ m ∧ z.length ≤ 1000 ∧ (∀ c ∈ z.cps.toList, SgOk c) ∧ ∀ H', Ex cs H H' → Q (.bl true) H'
theorem sc_text : FnScope ["value", "most"] ["value", "most"] (defScope s_is_text) := ⟨rfl, rfl, rfl, by decide +kernel, rfl, by decide +kernel, by decide +kernel⟩
theorem ok_text {f c Pt g : Addr} {fd fdg : FuncData} {cs : List (Addr × Addr)} (T : Txt mg) (F : Fun K "is_text_of_signs" "is_text_of_signs" s_is_text f fd) (hc : fd.code = .ref c) (TB : GxR.TabB base mg c Pt) (hm : (c, Pt) ∈ cs)
    (G : FnOk P w K mg base CX0 1 g fdg ["sign"] spSg) (kp : PySem.W.keepIn K (.ref g) = true) (bd : Binds K fdg ["sign"] []) (mgg : mg "is_sign" = some (.ref g)) : FnOk P w K mg base CX0 5 f fd ["value", "most"] (spText cs) := by
  refine fun_okT F hc sc_text (fun vs H Q E h => ?_) (fun A outer s H vs Q E hr h => ?_)
  · obtain ⟨z, m, rfl, _⟩ := h
    rfl
  · obtain ⟨z, m, rfl, hT, h1, h2, h3, k⟩ := h
    refine ⟨_, pss_one (ps_ret (pe_and (pe_callB call_isi (by rfl) T.isin (by decide +kernel) (pa_cons (pv 0) (pa_cons (pe_bltn (v := .ty "str") (by rfl) T.str (by decide +kernel) rfl) pa_nil)))
      (pe_and (pe_cmpR op_le (pe_callB call_len_str (by rfl) T.len PySem.boot_len (pa_cons (pv 0) pa_nil)) (pv 1) (nomark _))
        (pe_one (pe_allG (k := 1) (P := Pt) hr (by rfl) T.all TB rfl ⟨rfl, rfl, by decide +kernel, by decide +kernel, rfl, rfl⟩ (pi_str (pv 0)) (fun A' code s4 H4 fp hr' => pe_call G hr' (by rfl) mgg kp bd .nil pass0 (pa_cons (pv 0) pa_nil)) (fun _ => rfl)))))), ?_⟩
    refine ⟨_, rfl, _, _, _, _, true, rfl, .ty _, .base (.str z), kit_ty (by decide +kernel), true, rfl, iteT ⟨_, rfl, z, rfl, line10 h2, _, rfl, _, _, rfl, rfl, true, dT h1, iteT ⟨_, rfl, z, rfl, hT _ hm, fun H2 hH2 => ?_⟩⟩⟩
    refine all_by (w := walk_str (z := z)) (fun _ => true) (fun _ H' => H' = H2) rfl (fun _ _ _ _ => trivial) (fun i v H3 H4 hi e y Z hZ => ?_) (fun H3 e _ => ?_) (fun i H3 _ e _ => by cases e)
    · obtain ⟨rfl, c, hc, rfl⟩ := y
      subst e
      refine ⟨_, rfl, c, rfl, h3 c ?_, hZ _ rfl⟩
      exact List.mem_of_getElem? (by rw [Array.getElem?_toList]; exact hc)
    · subst e
      exact k _ (Ex.tabbed hT hm hH2)
end
end TG
namespace TG
open PySem L2 Gx
/-- a page: its rows' tuples at as -/
structure PageAt (K : PySem.W.Frag) (H : Hp) (a : Addr) (as : List Addr) (rows : List (List Str)) : Prop where
  lst : SqL K H a (as.map V.ref)
  len : as.length = rows.length
  row : ∀ (i : Nat) (p : Addr) (r : List Str), as[i]? = some p → rows[i]? = some r → SqT K H p (sV r)
structure PgOk (rows : List (List Str)) : Prop where
  pos : 1 ≤ rows.length
  len : rows.length ≤ 30
  rows : ∀ r ∈ rows, RowOk r
theorem PageAt.ex {K : PySem.W.Frag} {cs : List (Addr × Addr)} {H H' : Hp} {a : Addr} {as : List Addr} {rows : List (List Str)} (p : PageAt K H a as rows) (e : Ex cs H H') : PageAt K H' a as rows :=
  ⟨e.sqL p.lst, p.len, fun i q r h1 h2 => e.sqT (p.row i q r h1 h2)⟩
theorem get_map {α β : Type} {f : α → β} {xs : List α} {i : Nat} {y : β} (h : (xs.map f)[i]? = some y) : ∃ x, xs[i]? = some x ∧ y = f x := by
  rw [List.getElem?_map] at h
  cases e : xs[i]? with
  | none => rw [e] at h; cases h
  | some x => rw [e] at h; cases h; exact ⟨x, rfl, rfl⟩
theorem getP {α : Type} {xs : List α} {i : Nat} (h : i < xs.length) : ∃ x, xs[i]? = some x := ⟨xs[i], List.getElem?_eq_getElem h⟩
section
variable {P : Program} {w : World} {K : PySem.W.Frag} {mg : Str → Option Value} {base : Heap} {cs : List (Addr × Addr)}
def spRow (K : PySem.W.Frag) (cs : List (Addr × Addr)) : Sp := fun vs H Q _ => ∃ (a : Addr) (r : List Str), vs = [.ref a] ∧ Tabs cs H ∧ SqT K H a (sV r) ∧ RowOk r ∧ ∀ H', Ex cs H H' → Q (.bl true) H'
theorem sc_row : FnScope ["value"] ["value"] (defScope s_is_row) := ⟨rfl, rfl, rfl, by decide +kernel, rfl, by decide +kernel, by decide +kernel⟩
theorem ok_isrow {f c Pt g : Addr} {fd fdg : FuncData} (T : Txt mg) (N : Consts mg) (F : Fun K "is_row" "is_row" s_is_row f fd) (hc : fd.code = .ref c) (TB : GxR.TabB base mg c Pt) (hm : (c, Pt) ∈ cs)
    (G : FnOk P w K mg base CX0 5 g fdg ["value", "most"] (spText cs)) (kp : PySem.W.keepIn K (.ref g) = true) (bd : Binds K fdg ["value", "most"] []) (mgg : mg "is_text_of_signs" = some (.ref g)) : FnOk P w K mg base CX0 9 f fd ["value"] (spRow K cs) := by
  refine fun_okT F hc sc_row (fun vs H Q E h => ?_) (fun A outer s H vs Q E hr h => ?_)
  · obtain ⟨a, r, rfl, _⟩ := h
    rfl
  · obtain ⟨a, r, rfl, hT, hS, ⟨p1, p2, p3⟩, k⟩ := h
    obtain ⟨t1, e1⟩ := N.cells
    obtain ⟨t2, e2⟩ := N.signs
    refine ⟨_, pss_cons (ps_if (PW.pt (pw_or (pt_not (pt_val (pe_callB call_isi (by rfl) T.isin (by decide +kernel) (pa_cons (pv 0) (pa_cons (pe_bltn (v := .ty "tuple") (by rfl) T.tuple (by decide +kernel) rfl) pa_nil)))))
        (pw_or1 (pt_not (pt_chain op_le op_le pe_int (pe_callB call_len_seq (by rfl) T.len PySem.boot_len (pa_cons (pv 0) pa_nil)) (pe_glob (v := .int 6) rfl e1 ⟨_, rfl⟩)))))) (pss_one (ps_ret pe_bl)) pss_nil)
      (pss_one (ps_ret (pe_allG (k := 5) (P := Pt) hr (by rfl) T.all TB rfl ⟨rfl, rfl, by decide +kernel, by decide +kernel, rfl, rfl⟩ (pi_tup (pv 0))
        (fun A' code s4 H4 fp hr' => pe_call G hr' (by rfl) mgg kp bd .nil pass0 (pa_cons (pv 0) (pa_cons (pe_glob (v := .int 10) rfl e2 ⟨_, rfl⟩) pa_nil))) (fun _ => rfl)))), ?_⟩
    have hl : (sV r).length = r.length := List.length_map ..
    refine ⟨_, rfl, _, _, _, _, true, rfl, .ty _, ty_tup hS, kit_ty (by decide +kernel), true, rfl, iteF ⟨_, rfl, a, _, rfl, .inr hS, 1, _, rfl, rfl, true, dT (by omega), iteT ⟨_, 6, rfl, rfl, true, dT (by omega), iteF ?_⟩⟩⟩
    refine ⟨_, rfl, a, rfl, ⟨_, hS⟩, hT _ hm, fun H2 hH2 => ?_⟩
    have x2 := Ex.tabbed hT hm hH2
    refine all_by (w := walk_tup (a := a) (xs := sV r)) (fun _ => true) (fun _ H' => Ex cs H H') x2 (fun i H' _ x => x.sqT hS) (fun i v H3 H4 hi x y Z hZ => ?_) (fun H3 x _ => k _ x) (fun i H3 _ e _ => by cases e)
    obtain ⟨rfl, hv⟩ := y
    obtain ⟨z, hz, rfl⟩ := get_map hv
    obtain ⟨c1, c2⟩ := p3 z (List.mem_of_getElem? hz)
    exact ⟨_, rfl, z, 10, rfl, x.tab, by omega, by omega, c2, fun H5 x5 => hZ _ (x.trans x5)⟩
def spCheck (K : PySem.W.Frag) (cs : List (Addr × Addr)) : Sp := fun vs H Q _ => ∃ (a : Addr) (as : List Addr) (rows : List (List Str)), vs = [.ref a] ∧ Tabs cs H ∧ PageAt K H a as rows ∧ PgOk rows ∧ ∀ H', Ex cs H H' → Q .non H'
theorem sc_misfit : FnScope ["rows", "number", "row"] ["rows"] (defScope s_misfit) := ⟨rfl, rfl, rfl, by decide +kernel, rfl, by decide +kernel, by decide +kernel⟩
theorem ok_misfit {f g : Addr} {fd fdg : FuncData} (T : Txt mg) (N : Consts mg) (F : Fun K "first_misfit" "first_misfit" s_misfit f fd)
    (G : FnOk P w K mg base CX0 9 g fdg ["value"] (spRow K cs)) (kp : PySem.W.keepIn K (.ref g) = true) (bd : Binds K fdg ["value"] []) (mgg : mg "is_row" = some (.ref g)) : FnOk P w K mg base CX0 10 f fd ["rows"] (spCheck K cs) := by
  refine F.ok sc_misfit (fun vs H Q E h => ?_) (fun cdv A outer s H vs Q E hr h => ?_)
  · obtain ⟨a, as, rows, rfl, _⟩ := h
    rfl
  · obtain ⟨a, as, rows, rfl, hT, hP, hO, k⟩ := h
    have nd := sc_misfit.nd
    obtain ⟨t1, e1⟩ := N.rows
    refine ⟨_, pss_cons (ps_for PassesOwn.never rfl (pi_enum (by rfl) T.enum (pa_cons (pv 0) pa_nil)) (pg_tup rfl (pgs_cons (pg_name (i := 1) nd rfl (.inl rfl)) (pgs_cons (pg_name (i := 2) nd rfl (.inl rfl)) pgs_nil)))
        (pss_one (ps_if (PW.pt (pw_or (pt_cmpR op_eq (pv 1) (pe_glob (v := .int 30) rfl e1 ⟨_, rfl⟩) (nomark _)) (pw_or1 (pt_not (pt_val (pe_call G hr (by rfl) mgg kp bd .nil pass0 (pa_cons (pv 2) pa_nil))))))) (pss_one ps_never) pss_nil)))
      (pss_one (ps_ret pe_non)), ?_⟩
    have hl : (as.map V.ref).length = rows.length := by rw [List.length_map]; exact hP.len
    have := hO.pos
    have := hO.len
    refine ⟨_, rfl, a, _, rfl, hP.lst, for_it (walk_enum (xs := as.map V.ref)) (fun _ σ H' => Ex cs H H' ∧ σ[0]? = some (some (.ref a)) ∧ σ.length = 3) ⟨Ex.refl hT, rfl, rfl⟩ (fun i σ H' _ x => x.1.sqL hP.lst) ?_ ?_⟩
    · rintro i x σ H3 H4 hi ⟨x3, s0, sl⟩ ⟨Tp, v, u, rfl, hn, rfl, hv, hu⟩
      cases hv
      obtain ⟨p, hp, rfl⟩ := get_map hu
      have hi2 : i < rows.length := by omega
      obtain ⟨r, hr2⟩ := getP hi2
      have xl := Ex.laid (o := .tup [.int (i : Nat), .ref p]) x3.tab hn
      refine ⟨Tp, _, rfl, .inl (.inl upd_same), rfl, _, _, rfl, _, _, rfl, rfl, ?_⟩
      have g1 : ((σ.set 1 (some (V.int (i : Nat)))).set 2 (some (V.ref p)))[1]? = some (some (V.int (i : Nat))) := by
        rw [List.getElem?_set_ne (by decide)]
        exact List.getElem?_set_self (by omega)
      have g2 : ((σ.set 1 (some (V.int (i : Nat)))).set 2 (some (V.ref p)))[2]? = some (some (V.ref p)) := List.getElem?_set_self (by rw [List.length_set]; omega)
      refine ⟨_, g1, rfl, false, dF (fun z => by injection z with z; omega), iteF ⟨_, g2, p, r, rfl, xl.tab, (x3.trans xl).sqT (hP.row i p r hp hr2), hO.rows r (List.mem_of_getElem? hr2), fun H5 x5 => ⟨true, rfl, iteF ⟨(x3.trans xl).trans x5, ?_, ?_⟩⟩⟩⟩
      · rw [List.getElem?_set_ne (by decide), List.getElem?_set_ne (by decide)]; exact s0
      · rw [List.length_set, List.length_set]; exact sl
    · rintro σ H' ⟨x, _⟩
      exact k H' x
theorem sc_check : FnScope ["page", "number"] ["page"] (defScope s_check_page) := ⟨rfl, rfl, rfl, by decide +kernel, rfl, by decide +kernel, by decide +kernel⟩
theorem ok_check {f g : Addr} {fd fdg : FuncData} (T : Txt mg) (F : Fun K "check_page" "check_page" s_check_page f fd)
    (G : FnOk P w K mg base CX0 10 g fdg ["rows"] (spCheck K cs)) (kp : PySem.W.keepIn K (.ref g) = true) (bd : Binds K fdg ["rows"] []) (mgg : mg "first_misfit" = some (.ref g)) : FnOk P w K mg base CX0 11 f fd ["page"] (spCheck K cs) := by
  refine F.ok sc_check (fun vs H Q E h => ?_) (fun cdv A outer s H vs Q E hr h => ?_)
  · obtain ⟨a, as, rows, rfl, _⟩ := h
    rfl
  · obtain ⟨a, as, rows, rfl, hT, hP, hO, k⟩ := h
    have nd := sc_check.nd
    refine ⟨_, pss_cons (ps_if (PW.pt (pw_or (pt_not (pt_val (pe_callB call_isi (by rfl) T.isin (by decide +kernel) (pa_cons (pv 0) (pa_cons (pe_bltn (v := .ty "list") (by rfl) T.list (by decide +kernel) rfl) pa_nil)))))
        (pw_or1 (pt_cmpR op_eq (pe_callB call_len_seq (by rfl) T.len PySem.boot_len (pa_cons (pv 0) pa_nil)) pe_int (nomark _))))) (pss_one ps_never) pss_nil)
      (pss_cons (ps_set (i := 1) nd rfl (.inl rfl) (pe_call G hr (by rfl) mgg kp bd .nil pass0 (pa_cons (pv 0) pa_nil)))
      (pss_one (ps_if (pt_cmpR op_notN (pv 1) pe_non (nomark _)) (pss_one ps_never) pss_nil))), ?_⟩
    have hl : (as.map V.ref).length = rows.length := by rw [List.length_map]; exact hP.len
    have := hO.pos
    have := hO.len
    refine ⟨_, rfl, _, _, _, _, true, rfl, .ty _, ty_list hP.lst, kit_ty (by decide +kernel), true, rfl, iteF ⟨_, rfl, a, _, rfl, .inl hP.lst, rfl, false, dF (fun z => by injection z with z; omega), iteF ?_⟩⟩
    exact ⟨_, rfl, a, as, rows, rfl, hT, hP, hO, fun H' x => ⟨_, rfl, rfl, false, rfl, iteF (k H' x)⟩⟩
structure StyleAt (K : PySem.W.Frag) (H : Hp) (a : Addr) (gap least : Int) : Prop where
  tup : SqT K H a [.int gap, .int least]
  g0 : 0 ≤ gap
  g1 : gap ≤ 4
  l0 : 0 ≤ least
  l1 : least ≤ 12
def spStyle (K : PySem.W.Frag) : Sp := fun vs H Q _ => ∃ (a : Addr) (gap least : Int), vs = [.ref a] ∧ StyleAt K H a gap least ∧ Q .non H
theorem sc_style : FnScope ["style", "gap", "least"] ["style"] (defScope s_check_style) := ⟨rfl, rfl, rfl, by decide +kernel, rfl, by decide +kernel, by decide +kernel⟩
theorem ok_cstyle {f g : Addr} {fd fdg : FuncData} (T : Txt mg) (N : Consts mg) (F : Fun K "check_style" "check_style" s_check_style f fd)
    (G : FnOk P w K mg base CX0 1 g fdg ["value", "low", "high"] spWhole) (kp : PySem.W.keepIn K (.ref g) = true) (bd : Binds K fdg ["value", "low", "high"] []) (mgg : mg "is_whole" = some (.ref g)) : FnOk P w K mg base CX0 2 f fd ["style"] (spStyle K) := by
  refine F.ok sc_style (fun vs H Q E h => ?_) (fun cdv A outer s H vs Q E hr h => ?_)
  · obtain ⟨a, gap, least, rfl, _⟩ := h
    rfl
  · obtain ⟨a, gap, least, rfl, ⟨hS, g0, g1, l0, l1⟩, k⟩ := h
    have nd := sc_style.nd
    obtain ⟨t1, e1⟩ := N.gap
    obtain ⟨t2, e2⟩ := N.least
    refine ⟨_, pss_cons (ps_if (PW.pt (pw_or (pt_not (pt_val (pe_callB call_isi (by rfl) T.isin (by decide +kernel) (pa_cons (pv 0) (pa_cons (pe_bltn (v := .ty "tuple") (by rfl) T.tuple (by decide +kernel) rfl) pa_nil)))))
        (pw_or1 (pt_cmpR op_ne (pe_callB call_len_seq (by rfl) T.len PySem.boot_len (pa_cons (pv 0) pa_nil)) pe_int (nomark _))))) (pss_one ps_never) pss_nil)
      (pss_cons (ps_asg (pv 0) (pg_tup rfl (pgs_cons (pg_name (i := 1) nd rfl (.inl rfl)) (pgs_cons (pg_name (i := 2) nd rfl (.inl rfl)) pgs_nil))))
      (pss_one (ps_if (PW.pt (pw_or (pt_not (pt_val (pe_call G hr (by rfl) mgg kp bd .nil pass0 (pa_cons (pv 1) (pa_cons pe_int (pa_cons (pe_glob (v := .int 4) rfl e1 ⟨_, rfl⟩) pa_nil))))))
        (pw_or1 (pt_not (pt_val (pe_call G hr (by rfl) mgg kp bd .nil pass0 (pa_cons (pv 2) (pa_cons pe_int (pa_cons (pe_glob (v := .int 12) rfl e2 ⟨_, rfl⟩) pa_nil))))))))) (pss_one ps_never) pss_nil))), ?_⟩
    refine ⟨_, rfl, _, _, _, _, true, rfl, .ty _, ty_tup hS, kit_ty (by decide +kernel), true, rfl, iteF ⟨_, rfl, a, _, rfl, .inr hS, rfl, false, rfl, iteF ?_⟩⟩
    exact ⟨_, rfl, a, _, rfl, hS, rfl, _, _, rfl, _, _, rfl, rfl, _, rfl, gap, 0, 4, rfl, g0, g1, true, rfl, iteF ⟨_, rfl, least, 0, 12, rfl, l0, l1, true, rfl, iteF k⟩⟩
end
end TG
namespace TG
open PySem L2 Gx
abbrev cl (z : Str) : List Nat := z.cps.toList
def restL (l : List Nat) : List Nat := if l.head? = some 45 then l.tail else l
def figB (z : Str) : Bool := decide (restL (cl z) ≠ []) && (restL (cl z)).all fun c => decide (48 ≤ c ∧ c ≤ 57)
section
variable {P : Program} {w : World} {K : PySem.W.Frag} {mg : Str → Option Value} {base : Heap} {cs : List (Addr × Addr)}
end
end TG
namespace TG
open PySem L2 Gx
def fillB (zs : List Str) : List Str := zs.filter fun z => decide (cl z ≠ [])
def rightB (zs : List Str) : Bool := decide (fillB zs ≠ []) && (fillB zs).all figB
section
variable {P : Program} {w : World} {K : PySem.W.Frag} {mg : Str → Option Value} {base : Heap} {cs : List (Addr × Addr)}
end
end TG
namespace TG
open PySem L2 Gx
def clB (rows : List (List Str)) (c i : Nat) : Bool := match rows[i]? with
  | some r => decide (c + 1 < r.length)
  | none => false
def hiB (rows : List (List Str)) (c i : Nat) : Nat := i + ((rows.drop i).takeWhile fun r => decide (c + 1 < r.length)).length
/-- pairs of numbers at ts -/
structure PairsAt (H : Hp) (ts : List Addr) (ps : List (Nat × Nat)) : Prop where
  len : ts.length = ps.length
  at_ : ∀ (i : Nat) (t : Addr) (p : Nat × Nat), ts[i]? = some t → ps[i]? = some p → H t = some (.tup [.int (p.1 : Nat), .int (p.2 : Nat)])
theorem PairsAt.keep {H H' : Hp} {ts : List Addr} {ps : List (Nat × Nat)} (h : PairsAt H ts ps) (k : ∀ b xs, H b = some (.tup xs) → H' b = some (.tup xs)) : PairsAt H' ts ps := ⟨h.len, fun i t p h1 h2 => k _ _ (h.at_ i t p h1 h2)⟩
section
variable {P : Program} {w : World} {K : PySem.W.Frag} {mg : Str → Option Value} {base : Heap} {cs : List (Addr × Addr)}
end
end TG
namespace TG
open PySem L2 Gx
abbrev nilS : Str := ⟨#[]⟩
def cellsB (rows : List (List Str)) (c b e : Nat) : List Str := ((rows.drop b).take (e - b)).map fun r => r.getD c nilS
def longB : List Str → Nat
  | [] => 0
  | z :: zs => max z.length (longB zs)
def widthB (zs : List Str) (gap least : Int) : Int := if least > (longB zs : Int) + gap then least else (longB zs : Int) + gap
def holdB (zs : List Str) (b : Nat) (gap least : Int) : List Int := if least < (longB zs : Int) + gap then ((List.range zs.length).filter fun i => decide ((zs.getD i nilS).length = longB zs)).map fun i => ((b + i : Nat) : Int) else []
section
variable {P : Program} {w : World} {K : PySem.W.Frag} {mg : Str → Option Value} {base : Heap} {cs : List (Addr × Addr)}
/-- the told tuple at t, its holders at h -/
def DescAt (H : Hp) (t h : Addr) (c b e : Nat) (zs : List Str) (gap least : Int) : Prop :=
  H t = some (.tup [.int (c : Nat), .int (b : Nat), .int (e : Nat), .int (widthB zs gap least), .bl (rightB zs), .ref h]) ∧ H h = some (.lst ((holdB zs b gap least).map V.int))
end
end TG
namespace TG
open PySem L2 Gx
/-- the told tuples at ts, their holders at hs -/
structure DescsAt (H : Hp) (ts hs : List Addr) (es : List (Nat × Nat × Nat)) (rows : List (List Str)) (gap least : Int) : Prop where
  len : ts.length = es.length
  len2 : hs.length = es.length
  at_ : ∀ (i : Nat) (t h : Addr) (q : Nat × Nat × Nat), ts[i]? = some t → hs[i]? = some h → es[i]? = some q → DescAt H t h q.1 q.2.1 q.2.2 (cellsB rows q.1 q.2.1 q.2.2) gap least
theorem DescsAt.keep {H H' : Hp} {ts hs : List Addr} {es : List (Nat × Nat × Nat)} {rows : List (List Str)} {gap least : Int} (x : DescsAt H ts hs es rows gap least) (k : ∀ b o, H b = some o → (b ∈ ts ∨ b ∈ hs) → (∀ ps, o ≠ .tbl ps) → H' b = some o) : DescsAt H' ts hs es rows gap least :=
  ⟨x.len, x.len2, fun i t h q h1 h2 h3 => ⟨k _ _ (x.at_ i t h q h1 h2 h3).1 (.inl (List.mem_of_getElem? h1)) (fun ps z => by cases z), k _ _ (x.at_ i t h q h1 h2 h3).2 (.inr (List.mem_of_getElem? h2)) (fun ps z => by cases z)⟩⟩
theorem StyleAt.ex {K : PySem.W.Frag} {cs : List (Addr × Addr)} {H H' : Hp} {a : Addr} {gap least : Int} (p : StyleAt K H a gap least) (e : Ex cs H H') : StyleAt K H' a gap least := ⟨e.sqT p.tup, p.g0, p.g1, p.l0, p.l1⟩
section
variable {P : Program} {w : World} {K : PySem.W.Frag} {mg : Str → Option Value} {base : Heap} {cs : List (Addr × Addr)}
end
end TG
namespace TG
open PySem L2 Gx
theorem cl_app (x y : Str) : cl (x ++ y) = cl x ++ cl y := TL.tl_append x y
theorem joinL_nil : ∀ l : List (List Nat), TL.joinL [] l = l.flatten
  | [] => rfl
  | [p] => by simp [TL.joinL]
  | p :: q :: r => by
    show p ++ ([] ++ TL.joinL [] (q :: r)) = _
    rw [joinL_nil (q :: r)]
    rfl
theorem cl_join (ys : List Str) : cl (Txt.join "" ys) = (ys.map cl).flatten := by
  have e : ("" : Str) = SX.S [] := by decide +kernel
  have e2 : ys = (ys.map cl).map SX.S := by
    rw [List.map_map]
    conv => lhs; rw [← List.map_id ys]
    exact List.map_congr_left fun y _ => (SX.S_tl y).symm
  rw [e]
  conv => lhs; rw [e2]
  rw [SX.join_S, joinL_nil]
instance (c : Nat) : Decidable (SgOk c) := inferInstanceAs (Decidable (32 ≤ c ∧ c ≤ 126 ∧ c ≠ 37))
theorem sg_of {z : Str} (h : (z.cps.toList.all fun c => decide (SgOk c)) = true) : ∀ c ∈ cl z, SgOk c := fun c hc => of_decide_eq_true (List.all_eq_true.mp h c hc)
end TG
namespace TG
open PySem L2 Gx
abbrev everyS : Str := " !\"#$&'()*+,-./0123456789:;<=>?@ABCDEFGHIJKLMNOPQRSTUVWXYZ[\\]^_`abcdefghijklmnopqrstuvwxyz{|}~"
theorem every_ok : ∀ c ∈ cl everyS, SgOk c := sg_of (by decide +kernel)
theorem every_len : (cl everyS).length = 94 := by decide +kernel
/-- one of a written list -/
theorem pick {α : Type} {xs : List α} {i : Int} (h0 : 0 ≤ i) (h1 : i < xs.length) : ∃ x, x ∈ xs ∧ atI xs i = some x := by
  obtain ⟨n, rfl⟩ := Int.eq_ofNat_of_zero_le h0
  have hn : n < xs.length := by have : ((n : Nat) : Int) < xs.length := h1; omega
  exact ⟨xs[n], List.getElem_mem hn, atI_nat (List.getElem?_eq_getElem hn)⟩
theorem len_cl (z : Str) : z.length = (cl z).length := by simp [Str.length, cl]
theorem box_new {H : Hp} {b l p : Addr} {o : HO} (x : BoxAt H b l) (n : H p = none) : BoxAt (upd H p o) b l := by
  obtain ⟨ns, st, h1, h2, h3⟩ := x
  exact ⟨ns, st, by rw [upd_ne (ne_of_none h1 n)]; exact h1, by rw [upd_ne (ne_of_none h2 n)]; exact h2, h3⟩
theorem new_ne {H : Hp} {b l p : Addr} (x : BoxAt H b l) (n : H p = none) : p ≠ b ∧ p ≠ l := by
  obtain ⟨ns, st, h1, h2, h3⟩ := x
  exact ⟨(ne_of_none h1 n).symm, (ne_of_none h2 n).symm⟩
theorem box_upd {H : Hp} {b l p : Addr} {o : HO} (x : BoxAt H b l) (h1 : p ≠ b) (h2 : p ≠ l) : BoxAt (upd H p o) b l := by
  obtain ⟨ns, st, g1, g2, g3⟩ := x
  exact ⟨ns, st, by rw [upd_ne h1.symm]; exact g1, by rw [upd_ne h2.symm]; exact g2, g3⟩
theorem kb_upd {H H' : Hp} {b l p : Addr} {o : HO} (x : KB b l H H') (n : H p = none) : KB b l H (upd H' p o) := fun c u e h1 h2 => by rw [upd_ne (ne_of_none e n)]; exact x c u e h1 h2
theorem atI_map {α β : Type} {f : α → β} {xs : List α} {i : Int} {x : α} (h : atI xs i = some x) : atI (xs.map f) i = some (f x) := by
  unfold atI at h ⊢
  rw [List.length_map]
  cases e : ixN xs.length i with
  | none => rw [e] at h; cases h
  | some j =>
    rw [e] at h
    have h' : xs[j]? = some x := h
    show (xs.map f)[j]? = some (f x)
    rw [List.getElem?_map, h']
    rfl
/-- a list of single signs at D -/
structure OnesAt (b l : Addr) (H : Hp) (D : Addr) (i : Nat) (H' : Hp) : Prop where
  box : BoxAt H' b l
  keep : KB b l H H'
  nD : H D = none
  db : D ≠ b
  dl : D ≠ l
  ones : ∃ cs : List Nat, cs.length = i ∧ (∀ c ∈ cs, SgOk c) ∧ H' D = some (.lst (sV (cs.map fun c => ⟨#[c]⟩)))
theorem OnesAt.start {b l : Addr} {H H1 : Hp} {D : Addr} (hB : BoxAt H1 b l) (x : KB b l H H1) (n : H1 D = none) (nb : BoxAt H b l) : OnesAt b l H D 0 (upd H1 D (.lst [])) := by
  obtain ⟨d1, d2⟩ := new_ne hB n
  have nD : H D = none := by
    cases e : H D with
    | none => rfl
    | some o => rw [x D o e d1 d2] at n; cases n
  exact ⟨box_new hB n, kb_upd x nD, nD, d1, d2, [], rfl, fun c h => by simp at h, upd_same⟩
theorem OnesAt.more {b l : Addr} {H H1 H2 : Hp} {D : Addr} {i c : Nat} (o : OnesAt b l H D i H1) (hc : SgOk c) (hB : BoxAt H2 b l) (x : KB b l H1 H2) :
    ∃ acc, H2 D = some (.lst acc) ∧ acc.length = i ∧ OnesAt b l H D (i + 1) (upd H2 D (.lst (acc ++ [.str ⟨#[c]⟩]))) := by
  obtain ⟨cs, h1, h2, h3⟩ := o.ones
  refine ⟨_, x D _ h3 o.db o.dl, by rw [List.length_map, List.length_map, h1], box_upd hB o.db o.dl, kb_upd (o.keep.trans x) o.nD, o.nD, o.db, o.dl, cs ++ [c], by rw [List.length_append, h1]; rfl, fun d hd => ?_, ?_⟩
  · rcases List.mem_append.mp hd with h | h
    · exact h2 d h
    · rw [List.mem_singleton.mp h]; exact hc
  · rw [upd_same]
    simp [sV]
theorem OnesAt.done {b l : Addr} {H H1 : Hp} {D : Addr} {i : Nat} (o : OnesAt b l H D i H1) : ∃ ys : List Str, H1 D = some (.lst (ys.map V.str)) ∧ ys.length = i ∧ (ys.map fun y => y.length).sum = i ∧ (i ≤ 10 → CellOk (Txt.join "" ys)) := by
  obtain ⟨cs, h1, h2, h3⟩ := o.ones
  refine ⟨_, h3, by rw [List.length_map, h1], ?_, fun hi => ?_⟩
  · rw [← h1]
    clear h1 h2 h3
    induction cs with
    | nil => rfl
    | cons c cs ih =>
      rw [List.map_cons, List.map_cons, List.sum_cons, ih, List.length_cons]
      show 1 + cs.length = cs.length + 1
      omega
  · have e : cl (Txt.join "" (cs.map fun c => (⟨#[c]⟩ : Str))) = cs := by
      rw [cl_join, List.map_map]
      clear h1 h2 h3
      induction cs with
      | nil => rfl
      | cons c cs ih =>
        rw [List.map_cons, List.flatten_cons, ih]
        rfl
    exact ⟨by rw [len_cl, e, h1]; exact hi, fun c hc => h2 c (by have hc : c ∈ cl _ := hc; rw [e] at hc; exact hc)⟩
section
variable {P : Program} {w : World} {K : PySem.W.Frag} {mg : Str → Option Value} {base : Heap} {cs : List (Addr × Addr)}
def spSign : Sp := fun vs H Q _ => ∃ (b l : Addr), vs = [.ref b] ∧ BoxAt H b l ∧ ∀ (c : Nat) (H' : Hp), SgOk c → BoxAt H' b l → KB b l H H' → Q (.str ⟨#[c]⟩) H'
theorem sc_sign : FnScope ["_law_box", "_law_every"] ["_law_box"] (defScope s_sign) := ⟨rfl, rfl, rfl, by decide +kernel, rfl, by decide +kernel, by decide +kernel⟩
theorem ok_sign {f g : Addr} {fd fdg : FuncData} (F : Fun K "_law_sign" "_law_sign" s_sign f fd)
    (G : FnOk P w K mg base CX0 1 g fdg ["_law_box", "_law_many"] spTake) (kp : PySem.W.keepIn K (.ref g) = true) (bd : Binds K fdg ["_law_box", "_law_many"] []) (mgg : mg "_law_take" = some (.ref g)) : FnOk P w K mg base CX0 2 f fd ["_law_box"] spSign := by
  refine F.ok sc_sign (fun vs H Q E h => ?_) (fun cdv A outer s H vs Q E hr h => ?_)
  · obtain ⟨b, l, rfl, _⟩ := h
    rfl
  · obtain ⟨b, l, rfl, hB, k⟩ := h
    have nd := sc_sign.nd
    refine ⟨_, pss_cons (ps_set (i := 1) nd rfl (.inl rfl) pe_str) (pss_one (ps_ret (pe_ix ix_str (pv 1) (pe_call G hr (by rfl) mgg kp bd .nil pass0 (pa_cons (pv 0) (pa_cons pe_int pa_nil))) (fun _ _ => rfl)))), ?_⟩
    refine ⟨_, rfl, _, rfl, b, l, 94, rfl, hB, by decide, by decide, fun r H1 r0 r1 hB1 x1 => ?_⟩
    obtain ⟨c, hc, e⟩ := pick (xs := cl everyS) r0 (by rw [every_len]; exact r1)
    exact ⟨everyS, r, c, rfl, rfl, line10 (by decide +kernel), e, k c H1 (every_ok c hc) hB1 x1⟩
end
end TG
namespace TG
open PySem L2 Gx
theorem new_old {b l p : Addr} {H H1 : Hp} (x : KB b l H H1) (hB : BoxAt H1 b l) (n : H1 p = none) : H p = none := by
  obtain ⟨d1, d2⟩ := new_ne hB n
  cases e : H p with
  | none => rfl
  | some o => rw [x p o e d1 d2] at n; cases n
/-- a list of cells at D -/
structure StrsAt (b l : Addr) (H : Hp) (D : Addr) (i : Nat) (H' : Hp) : Prop where
  box : BoxAt H' b l
  keep : KB b l H H'
  nD : H D = none
  db : D ≠ b
  dl : D ≠ l
  zsat : ∃ zs : List Str, zs.length = i ∧ (∀ z ∈ zs, CellOk z) ∧ H' D = some (.lst (sV zs))
theorem StrsAt.start {b l : Addr} {H H1 : Hp} {D : Addr} (hB : BoxAt H1 b l) (x : KB b l H H1) (n : H1 D = none) : StrsAt b l H D 0 (upd H1 D (.lst [])) := by
  obtain ⟨d1, d2⟩ := new_ne hB n
  have nD := new_old x hB n
  exact ⟨box_new hB n, kb_upd x nD, nD, d1, d2, [], rfl, fun c h => by simp at h, upd_same⟩
theorem StrsAt.more {b l : Addr} {H H1 H2 : Hp} {D : Addr} {i : Nat} {z : Str} (o : StrsAt b l H D i H1) (hc : CellOk z) (hB : BoxAt H2 b l) (x : KB b l H1 H2) :
    ∃ acc, H2 D = some (.lst acc) ∧ acc.length = i ∧ StrsAt b l H D (i + 1) (upd H2 D (.lst (acc ++ [.str z]))) := by
  obtain ⟨zs, h1, h2, h3⟩ := o.zsat
  refine ⟨_, x D _ h3 o.db o.dl, by rw [List.length_map, h1], box_upd hB o.db o.dl, kb_upd (o.keep.trans x) o.nD, o.nD, o.db, o.dl, zs ++ [z], by rw [List.length_append, h1]; rfl, fun d hd => ?_, ?_⟩
  · rcases List.mem_append.mp hd with h | h
    · exact h2 d h
    · rw [List.mem_singleton.mp h]; exact hc
  · rw [upd_same]
    simp [sV]
/-- a list of numbers at D, below m -/
structure IntsAt (b l : Addr) (H : Hp) (D : Addr) (i : Nat) (H' : Hp) : Prop where
  box : BoxAt H' b l
  keep : KB b l H H'
  nD : H D = none
  db : D ≠ b
  dl : D ≠ l
  isat : ∃ zs : List Int, zs.length = i ∧ H' D = some (.lst (zs.map V.int))
theorem IntsAt.start {b l : Addr} {H H1 : Hp} {D : Addr} (hB : BoxAt H1 b l) (x : KB b l H H1) (n : H1 D = none) : IntsAt b l H D 0 (upd H1 D (.lst [])) := by
  obtain ⟨d1, d2⟩ := new_ne hB n
  have nD := new_old x hB n
  exact ⟨box_new hB n, kb_upd x nD, nD, d1, d2, [], rfl, upd_same⟩
theorem IntsAt.more {b l : Addr} {H H1 H2 : Hp} {D : Addr} {i : Nat} {z : Int} (o : IntsAt b l H D i H1) (hB : BoxAt H2 b l) (x : KB b l H1 H2) :
    ∃ acc, H2 D = some (.lst acc) ∧ acc.length = i ∧ IntsAt b l H D (i + 1) (upd H2 D (.lst (acc ++ [.int z]))) := by
  obtain ⟨zs, h1, h3⟩ := o.isat
  refine ⟨_, x D _ h3 o.db o.dl, by rw [List.length_map, h1], box_upd hB o.db o.dl, kb_upd (o.keep.trans x) o.nD, o.nD, o.db, o.dl, zs ++ [z], by rw [List.length_append, h1]; rfl, ?_⟩
  rw [upd_same]
  simp
/-- rows' tuples -/
def RowsP (H : Hp) (as : List Addr) : Prop := ∀ p ∈ as, ∃ r, H p = some (.tup (sV r)) ∧ RowOk r
theorem RowsP.keep {H H' : Hp} {as : List Addr} (x : RowsP H as) (k : ∀ p xs, H p = some (.tup xs) → H' p = some (.tup xs)) : RowsP H' as := fun p hp => by
  obtain ⟨r, h1, h2⟩ := x p hp
  exact ⟨r, k _ _ h1, h2⟩
theorem RowsP.page {H : Hp} : ∀ {as : List Addr}, RowsP H as → ∃ rows : List (List Str), as.length = rows.length ∧ (∀ (i : Nat) (p : Addr) (r : List Str), as[i]? = some p → rows[i]? = some r → H p = some (.tup (sV r))) ∧ ∀ r ∈ rows, RowOk r
  | [], _ => ⟨[], rfl, fun i p r h => by simp at h, fun r h => by simp at h⟩
  | a :: as, x => by
    obtain ⟨rows, h1, h2, h3⟩ := RowsP.page (as := as) fun p hp => x p (List.mem_cons_of_mem _ hp)
    obtain ⟨r, g1, g2⟩ := x a List.mem_cons_self
    refine ⟨r :: rows, by rw [List.length_cons, List.length_cons, h1], fun i p q e1 e2 => ?_, fun q hq => ?_⟩
    · cases i with
      | zero => cases e1; cases e2; exact g1
      | succ i => exact h2 i p q (by simpa using e1) (by simpa using e2)
    · rcases List.mem_cons.mp hq with z | z
      · rw [z]; exact g2
      · exact h3 q z
section
variable {P : Program} {w : World} {K : PySem.W.Frag} {mg : Str → Option Value} {base : Heap} {cs : List (Addr × Addr)}
end
end TG
namespace TG
open PySem L2 Gx
theorem same_refl {H : Hp} : Same H H := fun _ _ h => h
theorem same_trans {H H1 H2 : Hp} (a : Same H H1) (b : Same H1 H2) : Same H H2 := fun c o h => b c o (a c o h)
theorem same_new {H : Hp} {p : Addr} {o : HO} (n : H p = none) : Same H (upd H p o) := fun c u h => by rw [upd_ne (ne_of_none h n)]; exact h
theorem same_upd {H H' : Hp} {p : Addr} {o : HO} (x : Same H H') (n : H p = none) : Same H (upd H' p o) := fun c u h => by rw [upd_ne (ne_of_none h n)]; exact x c u h
theorem same_sqL {K : PySem.W.Frag} {H H' : Hp} {a : Addr} {xs : List V} (e : Same H H') (h : SqL K H a xs) : SqL K H' a xs := by
  rcases h with (z | ⟨o, z⟩) | z
  · exact .inl (.inl (e _ _ z))
  · exact .inl (.inr ⟨o, e _ _ z⟩)
  · exact .inr z
theorem same_sqT {K : PySem.W.Frag} {H H' : Hp} {a : Addr} {xs : List V} (e : Same H H') (h : SqT K H a xs) : SqT K H' a xs := by
  rcases h with (z | ⟨o, z⟩) | z
  · exact .inl (.inl (e _ _ z))
  · exact .inl (.inr ⟨o, e _ _ z⟩)
  · exact .inr z
theorem PageAt.same {K : PySem.W.Frag} {H H' : Hp} {a : Addr} {as : List Addr} {rows : List (List Str)} (p : PageAt K H a as rows) (e : Same H H') : PageAt K H' a as rows :=
  ⟨same_sqL e p.lst, p.len, fun i q r h1 h2 => same_sqT e (p.row i q r h1 h2)⟩
theorem same_old {H H' : Hp} {p : Addr} (e : Same H H') (n : H' p = none) : H p = none := by
  cases q : H p with
  | none => rfl
  | some o => rw [e _ _ q] at n; cases n
section
variable {P : Program} {w : World} {K : PySem.W.Frag} {mg : Str → Option Value} {base : Heap} {cs : List (Addr × Addr)}
end
end TG
namespace TG
open PySem L2 Gx
def loB (rows : List (List Str)) (c : Nat) : Nat → Nat
  | 0 => 0
  | i + 1 => if clB rows c i = true then loB rows c i else i + 1
section
variable {P : Program} {w : World} {K : PySem.W.Frag} {mg : Str → Option Value} {base : Heap} {cs : List (Addr × Addr)}
end
end TG
namespace TG
open PySem L2 Gx
end TG
namespace TG
open PySem L2 Gx
def wB (rows : List (List Str)) (gap least : Int) (i c : Nat) : Int := widthB (cellsB rows c (loB rows c i) (hiB rows c i)) gap least
def rB (rows : List (List Str)) (i c : Nat) : Bool := rightB (cellsB rows c (loB rows c i) (hiB rows c i))
end TG
namespace TG
open PySem L2 Gx
section
variable {P : Program} {w : World} {K : PySem.W.Frag} {mg : Str → Option Value} {base : Heap} {cs : List (Addr × Addr)}
end
end TG
namespace TG
open PySem L2 Gx
/-- the list at l holds what is told of the first n closed cells of row i -/
def CellsAt (H : Hp) (rows : List (List Str)) (gap least : Int) (i n : Nat) (l : Addr) : Prop :=
  ∃ ts : List Addr, H l = some (.lst (ts.map V.ref)) ∧ ts.length = n ∧ ∀ (c : Nat) (t : Addr), ts[c]? = some t → H t = some (.tup [.int (wB rows gap least i c), .bl (rB rows i c)])
theorem CellsAt.ext {H H' : Hp} {rows : List (List Str)} {gap least : Int} {i n : Nat} {l : Addr} (x : CellsAt H rows gap least i n l) (e : LamX.ExtN H H') : CellsAt H' rows gap least i n l :=
  let ⟨ts, h1, h2, h3⟩ := x
  ⟨ts, e _ _ h1 (by intro ps z; cases z), h2, fun c t h => e _ _ (h3 c t h) (by intro ps z; cases z)⟩
theorem CellsAt.upd {H : Hp} {rows : List (List Str)} {gap least : Int} {i n : Nat} {l p : Addr} {xs : List V} {o : HO} (x : CellsAt H rows gap least i n l) (hp : H p = some (.lst xs)) (ne : l ≠ p) : CellsAt (upd H p o) rows gap least i n l :=
  let ⟨ts, h1, h2, h3⟩ := x
  ⟨ts, by rw [upd_ne ne]; exact h1, h2, fun c t h => by rw [upd_ne (ne_of (h3 c t h) hp (by intro z; cases z))]; exact h3 c t h⟩
section
variable {P : Program} {w : World} {K : PySem.W.Frag} {mg : Str → Option Value} {base : Heap} {cs : List (Addr × Addr)}
end
end TG
namespace TG
open PySem L2 Gx
/-- the list at r holds lists of numbers, f tells them -/
structure ToldAt (H : Hp) (r : Addr) (es : List Addr) (f : Nat → List Int) (n : Nat) : Prop where
  lst : H r = some (.lst (es.map V.ref))
  len : es.length = n
  nd : es.Nodup
  at_ : ∀ (i : Nat) (e : Addr), es[i]? = some e → H e = some (.lst ((f i).map V.int))
theorem ToldAt.ext {H H' : Hp} {r : Addr} {es : List Addr} {f : Nat → List Int} {n : Nat} (t : ToldAt H r es f n) (x : LamX.ExtN H H') : ToldAt H' r es f n :=
  ⟨x _ _ t.lst (by intro ps z; cases z), t.len, t.nd, fun i e h => x _ _ (t.at_ i e h) (by intro ps z; cases z)⟩
theorem same_ext {H H' : Hp} (x : Same H H') : LamX.ExtN H H' := fun b o e _ => x b o e
section
variable {P : Program} {w : World} {K : PySem.W.Frag} {mg : Str → Option Value} {base : Heap} {cs : List (Addr × Addr)}
end
end TG
namespace TG
open PySem L2 Gx
section
variable {P : Program} {w : World} {K : PySem.W.Frag} {mg : Str → Option Value} {base : Heap} {cs : List (Addr × Addr)}
end
end TG
namespace TG
open PySem L2 Gx
section
variable {P : Program} {w : World} {K : PySem.W.Frag} {mg : Str → Option Value} {base : Heap} {cs : List (Addr × Addr)}
end
end TG
namespace TG
open PySem L2 Gx
theorem ToldAt.go {H H' : Hp} {r : Addr} {es : List Addr} {f : Nat → List Int} {n : Nat} (t : ToldAt H r es f n) (x : Same H H') : ToldAt H' r es f n := t.ext (same_ext x)
section
variable {P : Program} {w : World} {K : PySem.W.Frag} {mg : Str → Option Value} {base : Heap} {cs : List (Addr × Addr)}
theorem StyleAt.same {H H' : Hp} {a : Addr} {gap least : Int} (p : StyleAt K H a gap least) (e : Same H H') : StyleAt K H' a gap least := ⟨same_sqT e p.tup, p.g0, p.g1, p.l0, p.l1⟩
end
end TG
namespace TG
open PySem L2 Gx
theorem ToldAt.congr {H : Hp} {r : Addr} {es : List Addr} {f g : Nat → List Int} {n : Nat} (t : ToldAt H r es f n) (e : ∀ i, i < n → f i = g i) : ToldAt H r es g n :=
  ⟨t.lst, t.len, t.nd, fun i u h => by rw [← e i (by rw [← t.len]; exact (List.getElem?_eq_some_iff.mp h).1)]; exact t.at_ i u h⟩
theorem ToldAt.put {H : Hp} {r : Addr} {es : List Addr} {f : Nat → List Int} {n i : Nat} {e : Addr} {xs : List Int} (t : ToldAt H r es f n) (he : es[i]? = some e) (ne : e ≠ r) : ToldAt (upd H e (.lst (xs.map V.int))) r es (fun k => if k = i then xs else f k) n := by
  refine ⟨by rw [upd_ne ne.symm]; exact t.lst, t.len, t.nd, fun k u h => ?_⟩
  by_cases q : k = i
  · subst q
    rw [he] at h
    cases h
    rw [upd_same, if_pos rfl]
  · rw [if_neg q, upd_ne (fun z => q (nd_ix t.nd h (by rw [z]; exact he)))]
    exact t.at_ k u h
section
variable {P : Program} {w : World} {K : PySem.W.Frag} {mg : Str → Option Value} {base : Heap} {cs : List (Addr × Addr)}
end
end TG
namespace TG
open PySem L2 Gx
theorem box_ext {b l : Addr} {H H' : Hp} (B : BoxAt H b l) (x : LamX.ExtN H H') : BoxAt H' b l := let ⟨ns, st, h1, h2, h3⟩ := B; ⟨ns, st, x _ _ h1 (by intro ps z; cases z), x _ _ h2 (by intro ps z; cases z), h3⟩
/-- what stands in a turn of the law: the box, the tables, the page and its copy, the style -/
structure PageT (cs : List (Addr × Addr)) (b l p q h : Addr) (as : List Addr) (rows : List (List Str)) (gap least : Int) (H : Hp) : Prop where
  box : BoxAt H b l
  tab : Tabs cs H
  pg : H p = some (.lst (as.map V.ref))
  hd : H h = some (.lst (as.map V.ref))
  al : as.length = rows.length
  row : ∀ (i : Nat) (a : Addr) (z : List Str), as[i]? = some a → rows[i]? = some z → H a = some (.tup (sV z))
  sty : H q = some (.tup [.int gap, .int least])
  g0 : 0 ≤ gap
  g1 : gap ≤ 4
  l0 : 0 ≤ least
  l1 : least ≤ 12
  ok : PgOk rows
theorem PageT.ext {cs : List (Addr × Addr)} {b l p q h : Addr} {as : List Addr} {rows : List (List Str)} {gap least : Int} {H H' : Hp} (t : PageT cs b l p q h as rows gap least H) (x : LamX.ExtN H H') (y : Tabs cs H') : PageT cs b l p q h as rows gap least H' :=
  ⟨box_ext t.box x, y, x _ _ t.pg (by intro ps z; cases z), x _ _ t.hd (by intro ps z; cases z), t.al, fun i a z h1 h2 => x _ _ (t.row i a z h1 h2) (by intro ps z; cases z), x _ _ t.sty (by intro ps z; cases z), t.g0, t.g1, t.l0, t.l1, t.ok⟩
end TG
namespace Zm
open PySem PySem.Spec PyProof.Rows L2
section
variable {P : Program} {w : World} {A : Around} {E : Value → Shared → Prop} {s : Shared} {z TI TO i1 i2 l1 l2 : Addr}
end
end Zm
namespace Zm
open PySem PySem.Spec PyProof.Rows L2
abbrev k1 (h : Heap) (a : Addr) : Heap := h.push { cls := .type "tuple_iterator", data := .fields #[.ref a, .int 0 0] }
abbrev k2 (h : Heap) (a b : Addr) : Heap := (k1 h a).push { cls := .type "list_iterator", data := .fields #[.ref b, .int 0 0] }
abbrev k3 (h : Heap) (a b : Addr) : Heap := (k2 h a b).push { cls := .type "tuple", data := .seq #[.ref h.objs.size, .ref (k1 h a).objs.size] }
abbrev k4 (h : Heap) (a b : Addr) : Heap := (k3 h a b).push { cls := .type "tuple", data := .seq #[.none, .none] }
abbrev k5 (h : Heap) (a b : Addr) : Heap := (k4 h a b).push { cls := .type "zip", data := .fields #[.none, .bool false, .bool false, .ref (k2 h a b).objs.size, .ref (k3 h a b).objs.size] }
theorem made (a b : Addr) (xs ys : Array Value) : Meets (Builtin.«zip.__new__» ⟨[.type "zip", .ref a, .ref b], []⟩) (fun _ R t => t.heap.IsTuple a xs ∧ t.heap.IsList b ys ∧ R (.ok (.ret (.ref (k4 t.heap a b).objs.size))) { t with heap := k5 t.heap a b }) :=
  .of_wp fun P w A R t h => by
    obtain ⟨hp, g, d, tk, os⟩ := t
    obtain ⟨u1, u2, h⟩ := h
    have hsub := sub_zip
    have v1 : Heap.IsTuple (Shared.heap ⟨hp, g, d, tk, os⟩) a xs := u1
    have v2 : Heap.IsList (Shared.heap ⟨hp.push { cls := .type "tuple_iterator", data := .fields #[.ref a, .int 0 0] }, g, d, tk, os⟩) b ys := Heap.IsList.push u2 _
    wp_walk using wpAny_pyIter_tuple v1, wpAny_pyIter_list v2
    exact ⟨_, rfl, h⟩
section
variable {P : Program} {w : World} {A : Around} {E : Value → Shared → Prop} {s : Shared}
end
end Zm
namespace TG
open PySem L2 Gx
section
variable {P : Program} {w : World} {K : PySem.W.Frag} {mg : Str → Option Value} {base : Heap} {cs : List (Addr × Addr)}
end
end TG
namespace TG
open PySem L2 Gx
section
variable {P : Program} {w : World} {K : PySem.W.Frag} {mg : Str → Option Value} {base : Heap} {cs : List (Addr × Addr)}
end
end TG
namespace Lv
open PySem PySem.Spec PyProof.Rows L2 NdefX GenW
/-- the object at f is the lambda F of the body e -/
def FnL (f : Addr) (F : NF) (e : Expr) : HO := .ext fun h => ∃ (od : Option Addr) (sl : Array (Option Value)) (pm ctv : Value), h.get? f = some (⟨.type "function", od, .func (PySem.W.kla_fn F.name F.qual F.params e F.scope F.cl pm (.ref F.c) ctv), sl⟩ : Obj)
theorem fnL_at {P : Program} {w : World} {H : Hp} {h : Heap} {f : Addr} {F : NF} {e : Expr} (hok : HOk P w H h) (q : H f = some (FnL f F e)) : ∃ (od : Option Addr) (sl : Array (Option Value)) (pm ctv : Value), h.get? f = some (⟨.type "function", od, .func (PySem.W.kla_fn F.name F.qual F.params e F.scope F.cl pm (.ref F.c) ctv), sl⟩ : Obj) := by
  have z := hok f _ q
  obtain ⟨z, _, _⟩ := z
  exact z
section
variable {X : Cx} {pins : List (Addr × Obj)} {σ : L2.St} {H : Hp} {s : Shared}
theorem inv_lam {F : NF} {e : Expr} {tk : Nat} {pm ctv : Value} (I : Inv X pins σ H s) :
    Inv X pins σ (upd H s.heap.objs.size (FnL s.heap.objs.size F e)) { s with heap := s.heap.push (PySem.W.kla_obj F.name F.qual F.params e F.scope F.cl pm F.c ctv), toks := tk } := by
  refine I.laid (a := s.heap.objs.size) (fun b u q => Heap.get?_push_of_some _ q) (Nat.le_refl _) ?_
  have q : (s.heap.push (PySem.W.kla_obj F.name F.qual F.params e F.scope F.cl pm F.c ctv)).get? s.heap.objs.size = some (PySem.W.kla_obj F.name F.qual F.params e F.scope F.cl pm F.c ctv) := Heap.get?_push_size _ rfl
  exact ⟨⟨_, _, pm, ctv, q⟩, ⟨_, q⟩, fun h1 h2 ⟨od, sl, p, t, z⟩ st => ⟨od, sl, p, t, st _ z⟩⟩
/-- a lambda's object is made, its code object too, if the table has none yet -/
theorem lam_val {c P : Addr} {params : Arguments} {body : Expr} {scope : Scope} {pos : Pos} {E : Value → Shared → Prop} {Q : Value → Shared → Prop} (I : Inv X pins σ H s) (B : LamX.TabB X.base X.mg c P) (hcode : X.env.code = .ref c)
    (hT : LamX.TabS H P (X.env.qual ++ "<lambda>")) (hdef : defaultsOf params X.env = ([], [])) (hfree : ∀ y ∈ scope.names, y.2 = .free → ∃ c, X.env.cells.lookup y.1 = some c)
    (k : ∀ (f c' : Addr) (H1 : Hp) (s' : Shared), Inv X pins σ H1 s' → (∀ b o, H b = some o → b ≠ P → H1 b = some o) → (∀ b, H1 b = none → H b = none) → LamX.TabS H1 P (X.env.qual ++ "<lambda>") → H f = none →
      H1 f = some (FnL f ⟨"<lambda>", X.env.qual ++ "<lambda>", params, [], scope, cloFrom X.env.cells scope.names [], c'⟩ body) → H1 c' = some (LamX.CodeO c' (X.env.qual ++ "<lambda>")) → Q (.ref f) s') :
    wpAny (model X.prog X.w) X.A (eval (.Lambda params body scope pos) X.env) Q E s := by
  obtain ⟨ps, tP, tok, tin⟩ := hT
  have bP : s.heap.BuiltinsAt X.mg P := B.bm.keeps I.bk
  have gP : s.heap.get? P = some { cls := .none, data := .fields ps } := I.hok P _ tP
  have none3 : ∀ {G : Hp} {x y z : Addr} {o u v : HO} {b : Addr}, upd (upd (upd G x o) y u) z v b = none → G b = none := fun {G x y z o u v b} q => by
    have r1 := q
    unfold upd at r1
    split at r1
    · cases r1
    split at r1
    · cases r1
    split at r1
    · cases r1
    exact r1
  refine PySem.W.kla_eval hdef ?_
  cases hc : codeAmong pos ps.toList with
  | some cv =>
    obtain ⟨c', e, hco⟩ := tin pos cv hc
    subst e
    refine PySem.W.kla_makeFunctionHit (mg := X.mg) (c := c) (P := P) (ps := ps) (closure_ok hfree) I.ok.glob (I.mod.glob.keeps I.bk) hcode (B.code.keeps I.bk) gP tok hc bP fun ctv h' tk hx hsz => ?_
    have I1 : Inv X pins σ H { s with heap := h', toks := tk } := I.kept hx
    have nF : H h'.objs.size = none := I1.hok.fresh (Nat.le_refl _)
    have I2 := inv_lam (F := ⟨"<lambda>", X.env.qual ++ "<lambda>", params, [], scope, cloFrom X.env.cells scope.names [], c'⟩) (e := body) (tk := tk) (pm := (X.mg "__name__").getD .none) (ctv := ctv) I1
    refine k h'.objs.size c' _ _ I2 (fun b o q _ => by rw [upd_ne (ne_of_none q nF)]; exact q) (fun b q => ?_) ⟨ps, by rw [upd_ne (ne_of_none tP nF)]; exact tP, tok, fun p' cv' q => ?_⟩ nF upd_same (by rw [upd_ne (ne_of_none hco nF)]; exact hco)
    · unfold upd at q
      split at q
      · cases q
      · exact q
    · obtain ⟨c0, e1, e2⟩ := tin p' cv' q
      exact ⟨c0, e1, by rw [upd_ne (ne_of_none e2 nF)]; exact e2⟩
  | none =>
    refine PySem.W.kla_makeFunction (mg := X.mg) (c := c) (P := P) (ps := ps) (closure_ok hfree) I.ok.glob (I.mod.glob.keeps I.bk) hcode (B.code.keeps I.bk) gP tok hc B.gP bP fun c' ctv h' tk hx hge hlt hrec htb => ?_
    obtain ⟨c2, oc, vs, t, e2, hoc, hd, hv⟩ := hrec
    cases e2
    have nC : H c' = none := I.hok.fresh hge
    have I1 := LamX.inv_table (t' := tk) (more := #[rawInt pos.line, rawInt pos.col, .ref c']) (h' := h') I tP (fun b o hb q => hx b o hb q) htb hge ⟨oc, vs, t, hoc, hd, hv⟩
    have nF := I1.hok.fresh (Nat.le_refl _)
    have I2 := inv_lam (F := ⟨"<lambda>", X.env.qual ++ "<lambda>", params, [], scope, cloFrom X.env.cells scope.names [], c'⟩) (e := body) (tk := tk) (pm := (X.mg "__name__").getD .none) (ctv := ctv) I1
    have fC : h'.objs.size ≠ c' := Nat.ne_of_gt hlt
    have pC : P ≠ c' := ne_of_none tP nC
    have nF0 : H h'.objs.size = none := I.hok.fresh (Nat.le_trans hge (Nat.le_of_lt hlt))
    have pF : P ≠ h'.objs.size := ne_of_none tP nF0
    have eL : (ps ++ #[rawInt pos.line, rawInt pos.col, .ref c']).toList = ps.toList ++ [rawInt pos.line, rawInt pos.col, .ref c'] := by simp
    have kk : ∀ b o, H b = some o → b ≠ P → upd (upd (upd H P (.tbl (ps ++ #[rawInt pos.line, rawInt pos.col, .ref c']))) c' (LamX.CodeO c' (X.env.qual ++ "<lambda>"))) h'.objs.size (FnL h'.objs.size ⟨"<lambda>", X.env.qual ++ "<lambda>", params, [], scope, cloFrom X.env.cells scope.names [], c'⟩ body) b = some o := fun b o q hb => by
      rw [upd_ne (ne_of_none q nF0), upd_ne (ne_of_none q nC), upd_ne hb]
      exact q
    refine k h'.objs.size c' _ _ I2 kk (fun b q => none3 q) ⟨_, by rw [upd_ne pF, upd_ne pC, upd_same], by rw [eL]; exact PySem.TriplesOk_snoc _ _ _ _ tok, fun p' cv q => ?_⟩ nF0 upd_same (by rw [upd_ne fC.symm, upd_same])
    rw [eL] at q
    rcases LamX.among_app _ tok q with z | z
    · obtain ⟨c0, e1, e2⟩ := tin p' cv z
      exact ⟨c0, e1, kk _ _ e2 (fun y => by rw [y, tP] at e2; exact LamX.codeO_ne ps (Option.some.inj e2).symm)⟩
    · exact ⟨c', z, by rw [upd_ne fC.symm, upd_same]⟩
end
section
variable {P : Program} {w : World} {K : PySem.W.Frag} {mg : Str → Option Value} {base : Heap}
end
end Lv
namespace TG
open PySem PySem.Spec PyProof.Rows L2
abbrev cellF (o : Obj) : HO := .frz o (.own 0)
def addC (H : Hp) (cl : List (Addr × Obj)) : Hp := fun b => match cl.lookup b with
  | some o => some (cellF o)
  | none => H b
def delC (H : Hp) (cl : List (Addr × Obj)) : Hp := fun b => match cl.lookup b with
  | some _ => none
  | none => H b
theorem addC_in {H : Hp} {cl : List (Addr × Obj)} {b : Addr} {o : Obj} (h : cl.lookup b = some o) : addC H cl b = some (cellF o) := by unfold addC; rw [h]
theorem addC_out {H : Hp} {cl : List (Addr × Obj)} {b : Addr} (h : cl.lookup b = none) : addC H cl b = H b := by unfold addC; rw [h]
theorem delC_in {H : Hp} {cl : List (Addr × Obj)} {b : Addr} {o : Obj} (h : cl.lookup b = some o) : delC H cl b = none := by unfold delC; rw [h]
theorem delC_out {H : Hp} {cl : List (Addr × Obj)} {b : Addr} (h : cl.lookup b = none) : delC H cl b = H b := by unfold delC; rw [h]
section
variable {P : Program} {w : World}
theorem objOk_congr {H1 H2 : Hp} {h : Heap} {a : Addr} (k : ∀ b o, H1 b = some o → (∀ u v, o ≠ .frz u v) → H2 b = some o) : ∀ u : HO, ObjOk P w H1 h a u → ObjOk P w H2 h a u
  | .lst _, x => x
  | .tup _, x => x
  | .dK _, x => x
  | .dT _, ⟨x1, x2, xs, x3, x4⟩ => ⟨x1, x2, xs, x3.mono fun p q ⟨e1, e2, e3⟩ => ⟨e1, k _ _ e2 (fun u v z => by cases z), e3⟩, x4⟩
  | .set _ _, x => x
  | .ins _ _ _, ⟨x1, x2⟩ => ⟨k _ _ x1 (fun u v z => by cases z), x2⟩
  | .own _, x => x
  | .xd _, x => x
  | .rng _ _, x => x
  | .frz _ u, ⟨x1, x2⟩ => ⟨x1, objOk_congr k u x2⟩
  | .tbl _, x => x
  | .met _ _, x => x
  | .ext _, x => x
/-- the cells stand as they are told, and were untold -/
structure CellsIn (cl : List (Addr × Obj)) (base : Heap) (fs : List Addr) (h : Heap) : Prop where
  at_ : ∀ c o, cl.lookup c = some o → h.get? c = some o ∧ base.get? c = none ∧ c ∉ fs
theorem hok_add {H : Hp} {h : Heap} {cl : List (Addr × Obj)} (hk : HOk P w H h) (n : ∀ c o, cl.lookup c = some o → H c = none ∧ h.get? c = some o) : HOk P w (addC H cl) h := fun a o e => by
  cases q : cl.lookup a with
  | some u =>
    rw [addC_in q] at e
    cases e
    exact ⟨(n a u q).2, ⟨u, (n a u q).2⟩⟩
  | none =>
    rw [addC_out q] at e
    refine objOk_congr (fun b v hb _ => ?_) o (hk a o e)
    cases r : cl.lookup b with
    | some u => rw [(n b u r).1] at hb; cases hb
    | none => rw [addC_out r]; exact hb
theorem hok_del {H : Hp} {h : Heap} {cl : List (Addr × Obj)} (hk : HOk P w H h) (n : ∀ c o, cl.lookup c = some o → H c = some (cellF o)) : HOk P w (delC H cl) h := fun a o e => by
  cases q : cl.lookup a with
  | some u => rw [delC_in q] at e; cases e
  | none =>
    rw [delC_out q] at e
    refine objOk_congr (fun b v hb nf => ?_) o (hk a o e)
    cases r : cl.lookup b with
    | some u =>
      rw [n b u r] at hb
      cases hb
      exact absurd rfl (nf _ _)
    | none => rw [delC_out r]; exact hb
variable {K : PySem.W.Frag} {mg : Str → Option Value} {base : Heap} {A : Around} {outer : List Env} {s s' : Shared}
/-- told of: as a callee finds it -/
theorem env_add {H : Hp} {cl : List (Addr × Obj)} (e0 : Env0 P w K mg base A outer s H) (C : CellsIn cl base (frs outer) s.heap) (n : ∀ c o, cl.lookup c = some o → H c = none) : Env0 P w K mg base A outer s (addC H cl) := by
  refine ⟨e0.frames, e0.mod, fun b o hb => ⟨(e0.bs b o hb).1, ?_⟩, e0.bsz, e0.funs, fun b hb => ?_, hok_add e0.hok fun c o q => ⟨n c o q, (C.at_ c o q).1⟩, e0.bare⟩
  · cases r : cl.lookup b with
    | some u => rw [(C.at_ b u r).2.1] at hb; cases hb
    | none => rw [addC_out r]; exact (e0.bs b o hb).2
  · cases r : cl.lookup b with
    | some u => exact absurd hb (C.at_ b u r).2.2
    | none => rw [addC_out r]; exact e0.frf b hb
/-- untold of: as the frame that has the cells finds it -/
theorem env_del {H : Hp} {cl : List (Addr × Obj)} (e0 : Env0 P w K mg base A outer s H) (n : ∀ c o, cl.lookup c = some o → H c = some (cellF o)) : Env0 P w K mg base A outer s (delC H cl) := by
  refine ⟨e0.frames, e0.mod, fun b o hb => ⟨(e0.bs b o hb).1, ?_⟩, e0.bsz, e0.funs, fun b hb => ?_, hok_del e0.hok n, e0.bare⟩
  · cases r : cl.lookup b with
    | some u => exact delC_in r
    | none => rw [delC_out r]; exact (e0.bs b o hb).2
  · cases r : cl.lookup b with
    | some u => exact delC_in r
    | none => rw [delC_out r]; exact e0.frf b hb
theorem un_del {fs : List Addr} {H H' : Hp} {h h' : Heap} {cl : List (Addr × Obj)} (u : Un fs [] (addC H cl) H' h h') (hk : HOk P w H' h') (n : ∀ c o, cl.lookup c = some o → H c = none ∧ h.get? c = some o ∧ c ∉ fs) : Un fs [] H (delC H' cl) h h' := by
  have told : ∀ c o, cl.lookup c = some o → H' c = some (cellF o) := fun c o q => u.frzs c o _ (addC_in q)
  have out : ∀ {b : Addr} {o : HO}, H b = some o → cl.lookup b = none := fun {b o} hb => by
    cases r : cl.lookup b with
    | some v => rw [(n b v r).1] at hb; cases hb
    | none => rfl
  refine ⟨fun b o hb nb hf hx => ?_, fun b o hb nb hf hx => ?_, fun b o hb nb hx => ?_, fun b o hb hx => u.there b o hb hx, fun b xs hb => ?_, fun b o v hb => ?_, fun b ps hb => ?_⟩
  · cases r : cl.lookup b with
    | some v =>
      rw [(n b v r).2.1] at hb
      cases hb
      exact (hk b _ (told b _ r)).1
    | none => exact u.keep b o hb (by rw [addC_out r]; exact nb) hf hx
  · cases r : cl.lookup b with
    | some v => exact absurd hf (n b v r).2.2
    | none => exact u.slot b o hb (by rw [addC_out r]; exact nb) hf hx
  · cases r : cl.lookup b with
    | some v => exact delC_in r
    | none => rw [delC_out r]; exact u.free b o hb (by rw [addC_out r]; exact nb) hx
  · rw [delC_out (out hb)]
    exact u.tups b xs (by rw [addC_out (out hb)]; exact hb)
  · rw [delC_out (out hb)]
    exact u.frzs b o v (by rw [addC_out (out hb)]; exact hb)
  · obtain ⟨more, q⟩ := u.tbls b ps (by rw [addC_out (out hb)]; exact hb)
    exact ⟨more, by rw [delC_out (out hb)]; exact q⟩
/-- back from a callee that was told of the cells -/
theorem ce_del {H : Hp} {cl : List (Addr × Obj)} {Q : VK} {u : Value} (C : CellsIn cl base (frs outer) s.heap) (n : ∀ c o, cl.lookup c = some o → H c = none) (h : CE outer P w (addC H cl) s (fun v H' => (∀ c o, cl.lookup c = some o → H' c = some (cellF o)) → Q v (delC H' cl)) u s') : CE outer P w H s Q u s' := by
  obtain ⟨v, H', h1, h2, un, hk, r, q⟩ := h
  have told : ∀ c o, cl.lookup c = some o → H' c = some (cellF o) := fun c o e => un.frzs c o _ (addC_in e)
  exact ⟨v, delC H' cl, h1, h2, un_del un hk (fun c o e => ⟨n c o e, (C.at_ c o e).1, (C.at_ c o e).2.2⟩), hok_del hk told, r, q told⟩
theorem un_add {fs : List Addr} {H H' : Hp} {h h' : Heap} {cl : List (Addr × Obj)} (u : Un fs [] (delC H cl) H' h h') (n : ∀ c o, cl.lookup c = some o → H c = some (cellF o) ∧ h.get? c = some o ∧ c ∉ fs) : Un fs [] H (addC H' cl) h h' := by
  have frz : ∀ {b : Addr} {o : HO}, H b = some o → (∀ a v, o ≠ .frz a v) → cl.lookup b = none := fun {b o} hb nf => by
    cases r : cl.lookup b with
    | some v =>
      rw [(n b v r).1] at hb
      cases hb
      exact absurd rfl (nf _ _)
    | none => rfl
  refine ⟨fun b o hb nb hf hx => ?_, fun b o hb nb hf hx => ?_, fun b o hb nb hx => ?_, fun b o hb hx => u.there b o hb hx, fun b xs hb => ?_, fun b o v hb => ?_, fun b ps hb => ?_⟩
  · cases r : cl.lookup b with
    | some v => rw [(n b v r).1] at nb; cases nb
    | none => exact u.keep b o hb (by rw [delC_out r]; exact nb) hf hx
  · cases r : cl.lookup b with
    | some v => rw [(n b v r).1] at nb; cases nb
    | none => exact u.slot b o hb (by rw [delC_out r]; exact nb) hf hx
  · cases r : cl.lookup b with
    | some v => rw [(n b v r).1] at nb; cases nb
    | none => rw [addC_out r]; exact u.free b o hb (by rw [delC_out r]; exact nb) hx
  · have r := frz hb fun a v z => by cases z
    rw [addC_out r]
    exact u.tups b xs (by rw [delC_out r]; exact hb)
  · cases r : cl.lookup b with
    | some q =>
      rw [(n b q r).1] at hb
      rw [addC_in r]
      exact hb
    | none =>
      rw [addC_out r]
      exact u.frzs b o v (by rw [delC_out r]; exact hb)
  · have r := frz hb fun a v z => by cases z
    obtain ⟨more, q⟩ := u.tbls b ps (by rw [delC_out r]; exact hb)
    exact ⟨more, by rw [addC_out r]; exact q⟩
/-- behind the frame that has the cells: they are told of again -/
theorem ce_add {H : Hp} {cl : List (Addr × Obj)} {Q : VK} {u : Value} (hk0 : HOk P w H s.heap) (n : ∀ c o, cl.lookup c = some o → H c = some (cellF o) ∧ c ∉ frs outer) (h : CE outer P w (delC H cl) s (fun v H' => (∀ c o, cl.lookup c = some o → H' c = none) → Q v (addC H' cl)) u s') : CE outer P w H s Q u s' := by
  obtain ⟨v, H', h1, h2, un, hk, r, q⟩ := h
  have at0 : ∀ c o, cl.lookup c = some o → s.heap.get? c = some o := fun c o e => (hk0 c _ (n c o e).1).1
  refine ⟨v, addC H' cl, h1, h2, un_add un fun c o e => ⟨(n c o e).1, at0 c o e, (n c o e).2⟩, hok_add hk fun c o e => ?_, r, q fun c o e => un.free c o (at0 c o e) (delC_in e) (by simp)⟩
  exact ⟨un.free c o (at0 c o e) (delC_in e) (by simp), un.keep c o (at0 c o e) (delC_in e) (n c o e).2 (by simp)⟩
theorem cx_add {H : Hp} {cl : List (Addr × Obj)} {E : XK} {u : Value} (hk0 : HOk P w H s.heap) (n : ∀ c o, cl.lookup c = some o → H c = some (cellF o) ∧ c ∉ frs outer) (h : L2.CX P w outer (delC H cl) s (fun cls d H' => (∀ c o, cl.lookup c = some o → H' c = none) → E cls d (addC H' cl)) u s') : L2.CX P w outer H s E u s' := by
  obtain ⟨a, B, H', cls, d, e1, fly, hk, ub, na, h1, h2, q⟩ := h
  have at0 : ∀ c o, cl.lookup c = some o → s.heap.get? c = some o := fun c o e => (hk0 c _ (n c o e).1).1
  have atB : ∀ c o, cl.lookup c = some o → B.get? c = some o := fun c o e => ub.keep c o (at0 c o e) (delC_in e) (n c o e).2
  have frz : ∀ {b : Addr} {o : HO}, H b = some o → (∀ a v, o ≠ .frz a v) → cl.lookup b = none := fun {b o} hb nf => by
    cases r : cl.lookup b with
    | some v =>
      rw [(n b v r).1] at hb
      cases hb
      exact absurd rfl (nf _ _)
    | none => rfl
  refine ⟨a, B, addC H' cl, cls, d, e1, fly, hok_add hk fun c o e => ⟨ub.free c o (at0 c o e) (delC_in e), atB c o e⟩, ⟨fun b o hb nb hf => ?_, ub.slot, fun b o hb nb => ?_, ub.there, fun b xs hb => ?_, fun b o v hb => ?_, fun b ps hb => ?_⟩, ?_, h1, h2, q fun c o e => ub.free c o (at0 c o e) (delC_in e)⟩
  · cases r : cl.lookup b with
    | some v => rw [(n b v r).1] at nb; cases nb
    | none => exact ub.keep b o hb (by rw [delC_out r]; exact nb) hf
  · cases r : cl.lookup b with
    | some v => rw [(n b v r).1] at nb; cases nb
    | none => rw [addC_out r]; exact ub.free b o hb (by rw [delC_out r]; exact nb)
  · have r := frz hb fun a v z => by cases z
    rw [addC_out r]
    exact ub.tups b xs (by rw [delC_out r]; exact hb)
  · cases r : cl.lookup b with
    | some q =>
      rw [(n b q r).1] at hb
      rw [addC_in r]
      exact hb
    | none =>
      rw [addC_out r]
      exact ub.frzs b o v (by rw [delC_out r]; exact hb)
  · have r := frz hb fun a v z => by cases z
    obtain ⟨more, q⟩ := ub.tbls b ps (by rw [delC_out r]; exact hb)
    exact ⟨more, by rw [addC_out r]; exact q⟩
  · cases r : cl.lookup a with
    | some v =>
      have z := fly.2.1
      rw [atB a v r] at z
      cases z
    | none => rw [addC_out r]; exact na
end
end TG
namespace TG
open PySem PySem.Spec PyProof.Rows L2 NdefX GenW Gx Lv
/-- the captured names' cells, told of, hold these values -/
structure Caught (F : NF) (fr : List Str) (ws : List (Option V)) (cl : List (Addr × Obj)) (H : Hp) : Prop where
  len : ws.length = fr.length
  told : ∀ c o, cl.lookup c = some o → H c = some (cellF o)
  all : ∀ y c, F.cl.lookup y = some c → ∃ o v, cl.lookup c = some o ∧ o.data = .cell v
  inj : ∀ x y c, F.cl.lookup x = some c → F.cl.lookup y = some c → x = y
  has : ∀ (i : Nat) (y : Str), fr[i]? = some y → ∃ c, F.cl.lookup y = some c ∧ ∀ v, ws[i]? = some (some v) → ∃ o u, cl.lookup c = some o ∧ o.data = .cell (some u) ∧ RelV v u
section
variable {P : Program} {w : World} {K : PySem.W.Frag} {mg : Str → Option Value} {base : Heap}
structure LOkX (P : Program) (w : World) (K : PySem.W.Frag) (mg : Str → Option Value) (base : Heap) (k : Nat) (f : Addr) (F : NF) (e : Expr) (sp : Sp) : Prop where
  run : ∀ (A : Around) (outer : List Env) (s : Shared) (H : Hp) (Q : VK) (E : XK), Room k A → Env0 P w K mg base A outer s H → H f = some (FnL f F e) → H F.c = some (LamX.CodeO F.c F.qual) → sp [] H Q E →
    codeAny (model P w) A (.call (.ref f) ⟨[], []⟩) (CR (L2.CX P w) outer P w H s Q E) s
theorem lokx_of {k : Nat} {f : Addr} {F : NF} {e : Expr} {N fr : List Str} {sp : Sp} (S : NScope N [] fr F.scope) (hb : ∀ (pm ctv : Value), bindArgs (PySem.W.kla_fn F.name F.qual F.params e F.scope F.cl pm (.ref F.c) ctv) ⟨[], []⟩ = pure [])
    (hbody : ∀ (A : Around) (outer : List Env) (s : Shared) (H : Hp) (Q : VK) (E : XK), Room k (A.deeper (envF F f s.heap.objs.size)) → sp [] H Q E → ∃ (ws : List (Option V)) (cl : List (Addr × Obj)) (t : TE), Caught F fr ws cl H ∧
      PE (ncx (L2.CX P w) P w K mg base N F f A outer s (delC H cl) (fun cls d H' => (∀ c o, cl.lookup c = some o → H' c = none) → E cls d (addC H' cl))) e t ∧ t (startF N [] ws) (delC H cl) (fun v H' => (∀ c o, cl.lookup c = some o → H' c = none) → Q v (addC H' cl))) :
    LOkX P w K mg base (k + 1) f F e sp := by
  refine ⟨fun A outer s H Q E hr e0 hf hc hsp => ?_⟩
  have lim : s.heap.NoLimit := e0.mod.nolimit.keeps fun b o q => (e0.bs b o q).1
  obtain ⟨od, sl, pm, ctv, ho⟩ := fnL_at e0.hok hf
  obtain ⟨ws, cl, t, C, ht, hq⟩ := hbody A outer s H Q E (hr.deeper _) hsp
  have hnf : ∀ c o, cl.lookup c = some o → c ∉ frs outer := fun c o q hb => by
    have z := e0.frf c hb
    rw [C.told c o q] at z
    cases z
  have at0 : ∀ c o, cl.lookup c = some o → s.heap.get? c = some o := fun c o q => (e0.hok c _ (C.told c o q)).1
  refine codeAny_mono (R := CR (L2.CX P w) outer P w (delC H cl) s (fun v H' => (∀ c o, cl.lookup c = some o → H' c = none) → Q v (addC H' cl)) (fun cls d H' => (∀ c o, cl.lookup c = some o → H' c = none) → E cls d (addC H' cl))) ?_ fun r s' q => ?_
  · have e1 := env_del e0 C.told
    refine PySem.W.kla_callFunE hr.depth ho rfl S.co S.gen rfl (codeO_at e0.hok hc) ?_
    rw [hb pm ctv]
    refine wpAny_pure (wpAny_newFunctionEnv S.nocell (fun ⟨n, _⟩ hy => by cases hy) (fun h₁ hns hsb => ⟨lim.fresh _ hsb, ?_⟩) S.kind)
    have kp : ∀ b o, s.heap.get? b = some o → h₁.get? b = some o := fun b o q => hsb.extBut b o (Nat.ne_of_lt (Heap.lt_size q)) (Heap.get?_push_of_some _ q)
    have CA : NdefX.CellsAt F.cl fr ws s.heap (delC H cl) := by
      refine ⟨C.len, fun y c q => ?_, C.inj, fun i y q => ?_⟩
      · obtain ⟨o, v, h1, h2⟩ := C.all y c q
        exact ⟨delC_in h1, v, o, at0 c o h1, h2⟩
      · obtain ⟨c, h1, h2⟩ := C.has i y q
        refine ⟨c, h1, fun v hv => ?_⟩
        obtain ⟨o, u, h3, h4, h5⟩ := h2 v hv
        exact ⟨u, h5, o, at0 c o h3, h4⟩
    have I := inv_startN (CX := L2.CX P w) (P := P) (w := w) (E := fun cls d H' => (∀ c o, cl.lookup c = some o → H' c = none) → E cls d (addC H' cl)) (f := f) (tk := s.toks + (([] : List Str).zip ([] : List Value)).length) S hr.hd e1 (vs := []) (us := []) rfl .nil CA hns kp
    refine PySem.W.kla_codeExpr (wpAny_mono (ht.run [] _ (startF N [] ws) (delC H cl) _ I hq) (fun v s' q => ?_) fun e' s' q => q)
    obtain ⟨w', H', J, rv, q⟩ := q
    exact ⟨w', H', J.os, J.bare, J.base, J.hok, rv, q⟩
  · cases r with
    | error er => exact cx_add e0.hok (fun c o q => ⟨C.told c o q, hnf c o q⟩) q
    | ok fl =>
      cases fl with
      | ret u => exact ce_add e0.hok (fun c o q => ⟨C.told c o q, hnf c o q⟩) q
      | next => exact False.elim q
      | brk => exact False.elim q
      | cont => exact False.elim q
end
end TG
namespace TG
open PySem PySem.Spec PyProof.Rows L2 NdefX GenW Gx Lv
structure ToldC (cells : List (Str × Addr)) (N names : List Str) (σ : L2.St) (cl : List (Addr × Obj)) : Prop where
  all : ∀ y ∈ names, ∃ c o v, cells.lookup y = some c ∧ cl.lookup c = some o ∧ o.data = .cell v
  val : ∀ y ∈ names, ∀ c o, cells.lookup y = some c → cl.lookup c = some o → ∀ (i : Nat) (v : V), N[i]? = some y → σ[i]? = some (some v) → ∃ u, o.data = .cell (some u) ∧ RelV v u
  inj : ∀ y z c, cells.lookup y = some c → cells.lookup z = some c → y = z
theorem cells_list {h : Heap} {cells : List (Str × Addr)} : ∀ names : List Str, (∀ y ∈ names, ∃ c v, cells.lookup y = some c ∧ h.IsCell c v) →
    ∃ cl : List (Addr × Obj), (∀ c o, cl.lookup c = some o → h.get? c = some o ∧ ∃ y ∈ names, cells.lookup y = some c) ∧ ∀ y ∈ names, ∀ c, cells.lookup y = some c → ∃ o, cl.lookup c = some o
  | [], _ => ⟨[], ⟨fun c o e => by simp at e, fun y hy => by simp at hy⟩⟩
  | y :: names, k => by
    obtain ⟨cl, h1, h2⟩ := cells_list names fun z hz => k z (List.mem_cons_of_mem _ hz)
    obtain ⟨c, v, e1, o, e2, _⟩ := k y List.mem_cons_self
    refine ⟨(c, o) :: cl, fun c' o' e => ?_, fun z hz c' e => ?_⟩
    · rw [List.lookup_cons] at e
      by_cases q : c' = c
      · rw [q, beq_self_eq_true] at e
        cases e
        rw [q]
        exact ⟨e2, y, List.mem_cons_self, e1⟩
      · rw [beq_false_of_ne q] at e
        obtain ⟨g1, z, hz, g2⟩ := h1 c' o' e
        exact ⟨g1, z, List.mem_cons_of_mem _ hz, g2⟩
    · rw [List.lookup_cons]
      by_cases q : c' = c
      · rw [q, beq_self_eq_true]
        exact ⟨o, rfl⟩
      · rw [beq_false_of_ne q]
        rcases List.mem_cons.mp hz with r | r
        · rw [r, e1] at e
          exact absurd (Option.some.inj e).symm q
        · exact h2 z r c' e
def tCallC (cells : List (Str × Addr)) (N names : List Str) (sp : Sp) (t : TA) : TE := fun σ H Q => t σ H fun vs H1 => ∀ cl : List (Addr × Obj), ToldC cells N names σ cl → (∀ c o, cl.lookup c = some o → H1 c = none) →
  sp vs (addC H1 cl) (fun v H' => (∀ c o, cl.lookup c = some o → H' c = some (cellF o)) → Q v (delC H' cl)) (fun _ _ _ => False)
theorem pe_callC {X : Cx} {names : List Str} {k : Nat} {f : Addr} {fd : FuncData} {ps : List Str} {sp : Sp} {x : Str} {p pos : Pos} {e : Expr} {es : List Expr} {t : TA} (F : FnOk X.prog X.w X.K X.mg X.base CX0 k f fd ps sp) (hr : Room k X.A) (hg : Gl X x) (hm : X.mg x = some (.ref f)) (hk : PySem.W.keepIn X.K (.ref f) = true) (hb : Binds X.K fd ps [])
    (hfn : ∀ y ∈ names, X.fn y = true) (hcell : ∀ y ∈ names, X.env.kindOf y = some .cell) (ha : PA X (e :: es) t) (hdb : (x == ("__debug__" : Str)) = false := by decide) (he : starEach (e :: es) X.env = (false, eval e X.env) :: starEach es X.env := by rfl) (hpl : (backTo pos (starEach es X.env)).any (·.1) = false := by rfl) :
    PE X (.Call (.Name x p) (e :: es) [] pos) (tCallC X.env.cells X.N names sp t) := by
  refine ⟨fun pins s σ H Q I h => ?_⟩
  refine wpAny_Call_Name_kw (ld_glob I hg hm ?_ hdb)
  refine PySem.W.callWith_K (h₀ := X.base) I.ok.mod.kin hk (thn (ha.run pos pins s σ H _ I h) fun us s1 ⟨vs, H1, I1, r, q⟩ => ⟨I1.kIn, ?_⟩) he hpl
  show wpAny _ _ (call (.ref f) us) _ _ _
  have has : ∀ y ∈ names, ∃ c v, X.env.cells.lookup y = some c ∧ s1.heap.IsCell c v := fun y hy => by
    obtain ⟨c, hc⟩ := I1.ok.has y (.inl (hcell y hy))
    obtain ⟨v, hv⟩ := I1.cell y c hc
    exact ⟨c, v, hc, hv⟩
  obtain ⟨cl, c1, c2⟩ := cells_list names has
  have un : ∀ c o, cl.lookup c = some o → H1 c = none := fun c o e => by
    obtain ⟨_, y, _, hc⟩ := c1 c o e
    exact I1.freeC y c hc
  have C : CellsIn cl X.base (frs X.stack) s1.heap := ⟨fun c o e => by
    obtain ⟨g1, y, hy, hc⟩ := c1 c o e
    have ge := I1.ok.cab y c (hfn y hy) hc
    refine ⟨g1, ?_, fun hin => ?_⟩
    · cases z : X.base.get? c with
      | none => rfl
      | some u => exact absurd (Nat.lt_of_lt_of_le (Heap.lt_size (I1.ok.bs c u z).1) ge) (Nat.lt_irrefl _)
    · rcases List.mem_cons.mp (I1.stkSub c hin) with z | z
      · obtain ⟨m, hn, _⟩ := I1.loc
        obtain ⟨v, o2, q1, q2⟩ := I1.cell y c hc
        rw [z] at q1
        obtain ⟨o3, es3, ep3, q3, q4, _⟩ := hn
        rw [q1] at q3
        cases q3
        rw [q2] at q4
        cases q4
      · obtain ⟨_, o2, q1, _⟩ := I1.ok.funs.mem z
        exact absurd (Nat.lt_of_lt_of_le (Heap.lt_size q1) ge) (Nat.lt_irrefl _)⟩
  have T : ToldC X.env.cells X.N names σ cl := by
    refine ⟨fun y hy => ?_, fun y hy c o hc ho i v hN hs => ?_, I1.ok.inj⟩
    · obtain ⟨c, hc⟩ := I1.ok.has y (.inl (hcell y hy))
      obtain ⟨v, o2, q1, q2⟩ := I1.cell y c hc
      obtain ⟨o, ho⟩ := c2 y hy c hc
      have z := (c1 c o ho).1
      rw [q1] at z
      cases z
      exact ⟨c, _, v, hc, ho, q2⟩
    · obtain ⟨m, hn, loc⟩ := I1.loc
      obtain ⟨u, ru, lk⟩ := loc i y v hN hs (.inr (.inl (hcell y hy)))
      rcases lk with ⟨z, _⟩ | ⟨_, c', hc', o2, q1, q2⟩
      · rw [hcell y hy] at z; cases z
      · rw [hc] at hc'
        cases hc'
        have z := (c1 c o ho).1
        rw [q1] at z
        cases z
        exact ⟨u, q2, ru⟩
  have sq := q cl T un
  have hl : (us ++ []).length = ps.length := by rw [List.append_nil, ← r.length]; exact F.len _ _ _ _ sq
  have e1 := env_add I1.env0 C un
  have bd := hb s1 us I1.kIn hl
  rw [List.append_nil] at bd
  refine wpAny_call (codeAny_mono (F.run X.A X.stack s1 (addC H1 cl) ⟨us, []⟩ us vs _ _ hr e1 bd r sq) fun r' s' hq => ?_)
  cases r' with
  | error er => exact False.elim hq
  | ok fl =>
    cases fl with
    | ret u => exact I1.after (ce_del C un hq)
    | next => exact False.elim hq
    | brk => exact False.elim hq
    | cont => exact False.elim hq
end TG
namespace TG
open PySem PySem.Spec PyProof.Rows L2 NdefX GenW Gx Lv
/-- the reading of a lambda that captures cells of the frame -/
def tLamC (P : Addr) (q : Str) (params : Arguments) (body : Expr) (scope : Scope) (cl : List (Str × Addr)) : TE := fun _ H Q => LamX.TabS H P q ∧ ∀ (f c' : Addr) (H1 : Hp), (∀ b o, H b = some o → b ≠ P → H1 b = some o) → (∀ b, H1 b = none → H b = none) → LamX.TabS H1 P q → H f = none →
  H1 f = some (FnL f ⟨"<lambda>", q, params, [], scope, cl, c'⟩ body) → H1 c' = some (LamX.CodeO c' q) → Q (.ref f) H1
theorem pe_lamC {X : Cx} {c P : Addr} {params : Arguments} {body : Expr} {scope : Scope} {pos : Pos} (B : LamX.TabB X.base X.mg c P) (hcode : X.env.code = .ref c) (hdef : defaultsOf params X.env = ([], []))
    (hfr : ∀ y ∈ scope.names, y.2 = .free → X.env.kindOf y.1 = some .cell ∨ X.env.kindOf y.1 = some .free) :
    PE X (.Lambda params body scope pos) (tLamC P (X.env.qual ++ "<lambda>") params body scope (cloFrom X.env.cells scope.names [])) := by
  refine ⟨fun pins s σ H Q I h => ?_⟩
  obtain ⟨hT, h⟩ := h
  exact lam_val I B hcode hT hdef (fun y hy e => I.ok.has _ (hfr y hy e)) fun f c' H1 s' J k1 k2 t1 nf hf hc => ⟨.ref f, H1, J, rfl, h f c' H1 k1 k2 t1 nf hf hc⟩
end TG

namespace TG
open PySem PySem.Spec PyProof.Rows L2 Gx
theorem fold_one (c : Nat) : ∀ (n : Nat) (acc : Array Nat), (List.replicate n (#[c] : Array Nat)).foldl (fun a b => a ++ b) acc = acc ++ (List.replicate n c).toArray
  | 0, acc => by simp
  | n + 1, acc => by
    rw [List.replicate_succ, List.foldl_cons, fold_one c n]
    apply Array.toList_inj.mp
    simp [List.replicate_succ]
def repS (c : Nat) (n : Nat) : Str := ⟨(List.replicate n c).toArray⟩
theorem cl_repS (c n : Nat) : cl (repS c n) = List.replicate n c := by simp [cl, repS]
section
variable {X : Cx}
def rRepS : V → V → Hp → VK → Prop := fun x y H Q => ∃ (c : Nat) (n : Int), x = .str ⟨#[c]⟩ ∧ y = .int n ∧ 0 ≤ n ∧ n ≤ 1000 ∧ Q (.str (repS c n.toNat)) H
theorem op_repS : OpR X (binaryOp .Mult) rRepS := by
  intro pins s σ H x y v u Q I rx ry h
  obtain ⟨c, n, rfl, rfl, h0, h1, q⟩ := h
  obtain ⟨t, rfl⟩ := rx
  obtain ⟨t', rfl⟩ := ry
  have hs : ((⟨#[c]⟩ : Str).length) = 1 := rfl
  refine PySem.P.mul_str ?_ (fun _ _ => ?_) (fun _ _ => ?_) ?_
  · rw [decide_eq_false (by omega), decide_eq_false (by omega)]
    rfl
  · rw [hs]
    have : (1 : Int) ≤ (2 ^ 63 - 1) / n := Int.le_ediv_of_mul_le (by omega) (by omega)
    omega
  · rw [hs, Nat.one_mul]
    have sz : (1000 : Nat) < sizeLine := by decide
    exact decide_eq_false (by omega)
  · by_cases e : n < 1
    · rw [if_pos e]
      have e0 : n = 0 := by omega
      subst e0
      exact ⟨by decide, .str (repS c (0 : Int).toNat), H, I.tok _, ⟨_, rfl⟩, q⟩
    · rw [if_neg e]
      by_cases e1 : n = 1
      · subst e1
        rw [if_pos (by rfl)]
        exact (⟨.str (repS c (1 : Int).toNat), H, I, ⟨_, rfl⟩, q⟩ : EP X pins σ Q _ _)
      · rw [if_neg (by rw [hs]; simp [e1])]
        have hf : (⟨(List.replicate n.toNat (#[c] : Array Nat)).foldl (· ++ ·) #[]⟩ : Str) = repS c n.toNat := by
          unfold repS
          rw [fold_one]
          simp
        show Made.post (.str ⟨(List.replicate n.toNat (#[c] : Array Nat)).foldl (· ++ ·) #[]⟩) _ _
        rw [hf]
        have sz : (1000 : Nat) < sizeLine := by decide
        have hl : (repS c n.toNat).length = n.toNat := by unfold repS; simp [Str.length]
        exact ⟨by omega, .str (repS c n.toNat), H, I.tok _, ⟨_, rfl⟩, q⟩
end
end TG

namespace TG
open PySem PySem.Spec PyProof.Rows L2 Gx
/-! ### texts of pages -/
abbrev tabS : Str := "\t"
abbrev lineS : Str := "\n"
def rowT (r : List Str) : Str := Txt.join tabS r
def pageT (rows : List (List Str)) : Str := Txt.join lineS (rows.map rowT)
theorem cl_tabS : cl tabS = [9] := by decide +kernel
theorem cl_lineS : cl lineS = [10] := by decide +kernel
theorem cl_joinL (y : Str) (ps : List Str) : cl (Txt.join y ps) = TL.joinL (cl y) (ps.map cl) := by
  rw [TL.join_eq]
  exact TL.tl_join y ps
theorem joinL_mem (S : List Nat) : ∀ (ps : List (List Nat)) (c : Nat), c ∈ TL.joinL S ps → c ∈ S ∨ ∃ p ∈ ps, c ∈ p
  | [], c, h => by cases h
  | [p], c, h => .inr ⟨p, by simp, h⟩
  | p :: q :: r, c, h => by
    have h : c ∈ p ++ (S ++ TL.joinL S (q :: r)) := h
    rcases List.mem_append.mp h with h | h
    · exact .inr ⟨p, by simp, h⟩
    rcases List.mem_append.mp h with h | h
    · exact .inl h
    rcases joinL_mem S (q :: r) c h with h | ⟨x, hx, hc⟩
    · exact .inl h
    · exact .inr ⟨x, by simp at hx ⊢; exact .inr hx, hc⟩
theorem joinL_len (S : List Nat) (m : Nat) : ∀ (ps : List (List Nat)), (∀ p ∈ ps, p.length ≤ m) → (TL.joinL S ps).length ≤ ps.length * (m + S.length)
  | [], _ => Nat.zero_le _
  | [p], h => by
    have := h p (by simp)
    show p.length ≤ 1 * (m + S.length)
    omega
  | p :: q :: r, h => by
    have h1 := h p (by simp)
    have h2 := joinL_len S m (q :: r) fun x hx => h x (by simp at hx ⊢; exact .inr hx)
    show (p ++ (S ++ TL.joinL S (q :: r))).length ≤ ((q :: r).length + 1) * (m + S.length)
    rw [List.length_append, List.length_append, Nat.add_mul]
    omega
theorem rowT_sg {r : List Str} (h : RowOk r) : ∀ c ∈ cl (rowT r), c = 9 ∨ SgOk c := by
  intro c hc
  unfold rowT at hc
  rw [cl_joinL, cl_tabS] at hc
  rcases joinL_mem _ _ _ hc with h1 | ⟨p, hp, h1⟩
  · exact .inl (by simpa using h1)
  · obtain ⟨z, hz, rfl⟩ := List.mem_map.mp hp
    exact .inr ((h.3 z hz).2 c h1)
theorem rowT_len {r : List Str} (h : RowOk r) : (rowT r).length ≤ 66 := by
  rw [len_cl]
  unfold rowT
  rw [cl_joinL]
  have := joinL_len (cl tabS) 10 (r.map cl) fun p hp => by
    obtain ⟨z, hz, rfl⟩ := List.mem_map.mp hp
    have := (h.3 z hz).1
    rw [← len_cl]
    exact this
  rw [List.length_map, cl_tabS, show ([9] : List Nat).length = 1 from rfl] at this
  rw [cl_tabS]
  have := h.2
  omega
theorem pageT_len {rows : List (List Str)} (h : PgOk rows) : (pageT rows).length ≤ 2010 := by
  rw [len_cl]
  unfold pageT
  rw [cl_joinL]
  have := joinL_len (cl lineS) 66 ((rows.map rowT).map cl) fun p hp => by
    obtain ⟨z, hz, rfl⟩ := List.mem_map.mp hp
    obtain ⟨r, hr, rfl⟩ := List.mem_map.mp hz
    rw [← len_cl]
    exact rowT_len (h.rows r hr)
  rw [List.length_map, List.length_map, cl_lineS, show ([10] : List Nat).length = 1 from rfl] at this
  rw [cl_lineS]
  have := h.len
  omega
theorem split_row {r : List Str} (h : RowOk r) : Txt.split (rowT r) tabS = r := by
  refine TL.split_join (s := 9) (S := []) cl_tabS (by decide +kernel) ?_ fun p hp q => ?_
  · intro e
    have := h.1
    rw [e] at this
    simp at this
  · have q : 9 ∈ cl p := q
    have := (h.3 p hp).2 9 q
    unfold SgOk at this
    omega
theorem split_page {rows : List (List Str)} (h : PgOk rows) : Txt.split (pageT rows) lineS = rows.map rowT := by
  refine TL.split_join (s := 10) (S := []) cl_lineS (by decide +kernel) ?_ fun p hp q => ?_
  · intro e
    have := h.pos
    have e2 := congrArg List.length e
    rw [List.length_map] at e2
    simp at e2
    rw [e2] at this
    simp at this
  · obtain ⟨r, hr, rfl⟩ := List.mem_map.mp hp
    have q : 10 ∈ cl (rowT r) := q
    rcases rowT_sg (h.rows r hr) 10 q with e | e
    · omega
    · unfold SgOk at e
      omega
theorem kind_min1 (y : Str) (hy : Builtin.Str.strKind y = 1) (x : Str) : ¬ Builtin.Str.strKind x < Builtin.Str.strKind y := by
  rw [hy]
  unfold Builtin.Str.strKind
  split
  · decide
  · split <;> decide
theorem splLenT (S : List Nat) : ∀ (l acc : List Nat) (k : Nat) (p : List Nat), p ∈ TL.spl S k acc l → p.length ≤ acc.length + l.length
  | [], acc, k, p, h => by
    unfold TL.spl at h
    rw [List.mem_singleton] at h
    rw [h]
    exact Nat.le_add_right _ _
  | c :: r, acc, 0, p, h => by
    unfold TL.spl at h
    rw [List.length_cons]
    split at h
    · rcases List.mem_cons.mp h with z | z
      · rw [z]; omega
      · have := splLenT S r [] _ p z
        simp at this
        omega
    · have := splLenT S r _ _ p h
      rw [List.length_append, List.length_singleton] at this
      omega
  | c :: r, acc, k + 1, p, h => by
    unfold TL.spl at h
    have := splLenT S r _ _ p h
    rw [List.length_cons]
    omega
theorem split_clL (z y : Str) (h0 : cl y ≠ []) (hy : Builtin.Str.strKind y = 1) : (Txt.split z y).map cl = TL.spl (cl y) 0 [] (cl z) :=
  TL.split_spl z y h0 (kind_min1 y hy z)
theorem split_pieceL {z y p : Str} (h0 : cl y ≠ []) (hy : Builtin.Str.strKind y = 1) (h : p ∈ Txt.split z y) : p.length ≤ z.length := by
  have h2 : cl p ∈ TL.spl (cl y) 0 [] (cl z) := by rw [← split_clL z y h0 hy]; exact List.mem_map_of_mem h
  have := splLenT (cl y) _ _ _ _ h2
  simpa [cl, Str.length] using this
theorem kind_line : Builtin.Str.strKind lineS = 1 := by decide +kernel
theorem kind_tab : Builtin.Str.strKind tabS = 1 := by decide +kernel
/-- the rows of a text -/
def rowsT (z : Str) : List (List Str) := (Txt.split z lineS).map fun l => Txt.split l tabS
theorem rowsT_page {rows : List (List Str)} (h : PgOk rows) : rowsT (pageT rows) = rows := by
  unfold rowsT
  rw [split_page h, List.map_map]
  conv => rhs; rw [← List.map_id rows]
  apply List.map_congr_left
  intro r hr
  exact split_row (h.rows r hr)
structure RowsAt (ps : List Addr) (rows : List (List Str)) (H : Hp) : Prop where
  len : ps.length = rows.length
  row : ∀ (i : Nat) (q : Addr) (z : List Str), ps[i]? = some q → rows[i]? = some z → H q = some (.tup (sV z))
def rTupT (K : PySem.W.Frag) : List V → Hp → VK → Prop := fun xs H Q => ∃ p ys, xs = [V.ref p] ∧ ((SqL K H p ys ∧ ∀ l, H l = none → Q (.ref l) (upd H l (.tup ys))) ∨ (SqT K H p ys ∧ Q (.ref p) H))
def rJoin (K : PySem.W.Frag) : V → List V → Hp → VK → Prop := fun x xs H Q => ∃ a p, ∃ ys : List Str, x = .str a ∧ xs = [.ref p] ∧ (SqL K H p (ys.map V.str) ∨ SqT K H p (ys.map V.str)) ∧ (ys.map (·.length)).sum + ys.length * a.length ≤ 16777216 ∧ Q (.str (Txt.join a ys)) H
section
variable {P : Program} {w : World} {K : PySem.W.Frag} {mg : Str → Option Value} {base : Heap} {cs : List (Addr × Addr)}
def spRowsOf (cs : List (Addr × Addr)) : Sp := fun vs H Q _ => ∃ z : Str, vs = [.str z] ∧ Tabs cs H ∧ z.length ≤ 1000000 ∧
  ∀ (r : Addr) (ps : List Addr) (H' : Hp), Ex cs H H' → H r = none → H' r = some (.lst (ps.map V.ref)) → RowsAt ps (rowsT z) H' → Q (.ref r) H'
theorem sc_rowsof : FnScope ["text", "line"] ["text"] (defScope s_rows_of) := ⟨rfl, rfl, rfl, by decide +kernel, rfl, by decide +kernel, by decide +kernel⟩
theorem ok_rowsof {f : Addr} {fd : FuncData} (T : Txt mg) (eT : ∃ t, mg "TAB" = some (.str tabS t)) (eL : ∃ t, mg "LINE_END" = some (.str lineS t)) (F : Fun K "rows_of" "rows_of" s_rows_of f fd) : FnOk P w K mg base CX0 1 f fd ["text"] (spRowsOf cs) := by
  refine F.ok sc_rowsof (fun vs H Q E h => ?_) (fun cdv A outer s H vs Q E hr h => ?_)
  · obtain ⟨z, rfl, _⟩ := h
    rfl
  · obtain ⟨z, rfl, hT, hz2, k⟩ := h
    have nd := sc_rowsof.nd
    have szl : (10000000 : Nat) < sizeLine := by decide
    obtain ⟨tt, eT⟩ := eT
    obtain ⟨tl, eL⟩ := eL
    refine ⟨_, pss_one (ps_ret (pe_lc (own := [("line", 1)]) (g := gName 1) (tt := tYes) rfl nd (pi_list (pe_split (pv 0) (pe_glob (v := .str lineS) rfl eL ⟨_, rfl⟩))) (blkOk_by (own := [("line", 1)]) (N := ["text", "line"]) (sc := defScope s_rows_of) (by decide +kernel))
        (fun _ _ _ _ _ => pg_name (i := 1) nd rfl (Or.inl rfl)) (fun _ _ _ _ _ => pts_nil) (fun s1 H1 C1 cl1 fp1 => pe_callTy (T := "tuple") (r := rTupT K) call_tuple_of (by rfl) T.tuple (by decide +kernel) (pa_cons (pe_split (to := tVar 1) (te := tC (.str tabS)) (pv 1) (pe_glob (v := .str tabS) (by rfl) eT ⟨_, rfl⟩)) pa_nil)))), ?_⟩
    have hlen : (Txt.split z lineS).length ≤ 1000002 := Nat.le_trans (PyProof.Rows.split_le z _) (by omega)
    refine ⟨_, rfl, ⟨_, rfl⟩, _, _, rfl, rfl, by decide +kernel, by omega, fun p np => ?_⟩
    have x1 := Ex.laid (o := .lst ((Txt.split z lineS).map V.str)) hT np
    have hp1 : upd H p (.lst ((Txt.split z lineS).map V.str)) p = some (.lst (sV (Txt.split z lineS))) := upd_same
    generalize upd H p (.lst ((Txt.split z lineS).map V.str)) = H1 at x1 hp1 ⊢
    refine ⟨p, rfl, ⟨_, SqL.of hp1⟩, fun D nD => lc_list (xs := sV (Txt.split z lineS)) (fun i H' => Ex cs H1 H' ∧ ∃ ps : List Addr, H' D = some (.lst (ps.map V.ref)) ∧ ps.length = i ∧ ∀ (j : Nat) (q : Addr) (z' : Str), ps[j]? = some q → (Txt.split z lineS)[j]? = some z' → H' q = some (.tup (sV (Txt.split z' tabS))))
      ⟨Ex.laid x1.tab nD, [], upd_same, rfl, fun j q z h => by cases h⟩ (fun i H' _ x => x.1.sqL (SqL.of hp1)) ?_ ?_⟩
    · rintro i v H4 hv ⟨x4, ps, hD4, hpl, hps⟩
      obtain ⟨y, hy, rfl⟩ := get_map hv
      have hi := (List.getElem?_eq_some_iff.mp hy).1
      have hyl := split_pieceL (by rw [cl_lineS]; decide) kind_line (List.mem_of_getElem? hy)
      refine ⟨rfl, _, rfl, ⟨_, rfl⟩, _, _, rfl, rfl, by decide +kernel, by omega, fun u nu => ⟨u, _, rfl, .inl ⟨SqL.of upd_same, fun t nt => ?_⟩⟩⟩
      have x5 := x4.trans (Ex.laid (o := .lst ((Txt.split y tabS).map V.str)) x4.tab nu)
      have x6 := x5.trans (Ex.laid (o := .tup ((Txt.split y tabS).map V.str)) x5.tab nt)
      have x46 := (Ex.laid (o := .lst ((Txt.split y tabS).map V.str)) x4.tab nu).trans (Ex.laid (o := .tup ((Txt.split y tabS).map V.str)) x5.tab nt)
      have ht : upd (upd H4 u (.lst ((Txt.split y tabS).map V.str))) t (.tup ((Txt.split y tabS).map V.str)) t = some (.tup (sV (Txt.split y tabS))) := upd_same
      have nt4 : H4 t = none := (Ex.laid (o := .lst ((Txt.split y tabS).map V.str)) x4.tab nu).old _ nt
      generalize upd (upd H4 u (.lst ((Txt.split y tabS).map V.str))) t (.tup ((Txt.split y tabS).map V.str)) = H6 at x6 x46 ht ⊢
      have hD6 := x46.lst hD4
      have nDt : D ≠ t := fun e => by rw [e, nt4] at hD4; cases hD4
      refine ⟨_, hD6, by rw [List.length_map]; omega, ex_new x1.tab x6 nD, ps ++ [t], ?_, by rw [List.length_append, hpl]; rfl, fun j q z2 h1 h2 => ?_⟩
      · rw [upd_same, List.map_append]; rfl
      · by_cases hj : j < ps.length
        · rw [List.getElem?_append_left hj] at h1
          have h0 := x46.tup (hps j q z2 h1 h2)
          rw [upd_ne (fun e => by rw [e, hD6] at h0; cases h0)]
          exact h0
        · have hl2 := (List.getElem?_eq_some_iff.mp h1).1
          rw [List.length_append, List.length_singleton] at hl2
          have ej : j = i := by omega
          subst ej
          rw [List.getElem?_append_right (by omega), hpl, Nat.sub_self] at h1
          cases h1
          rw [hy] at h2
          cases h2
          rw [upd_ne nDt.symm]
          exact ht
    · rintro H4 ⟨x4, ps, hD4, hpl, hps⟩
      rw [List.length_map] at hpl
      refine k D ps H4 (x1.trans x4) (x1.old _ nD) hD4 ⟨by unfold rowsT; rw [List.length_map]; exact hpl, fun i q z2 h1 h2 => ?_⟩
      unfold rowsT at h2
      obtain ⟨l, hl, rfl⟩ := get_map h2
      exact hps i q l h1 hl
/-! ### written -/
def spWrit (K : PySem.W.Frag) (cs : List (Addr × Addr)) : Sp := fun vs H Q _ => ∃ (a : Addr) (as : List Addr) (rows : List (List Str)), vs = [.ref a] ∧ Tabs cs H ∧ PageAt K H a as rows ∧ PgOk rows ∧ ∀ H', Ex cs H H' → Q (.str (pageT rows)) H'
theorem sumLeT (m : Nat) : ∀ (ys : List Str), (∀ y ∈ ys, y.length ≤ m) → (ys.map (·.length)).sum ≤ ys.length * m
  | [], _ => Nat.zero_le _
  | y :: ys, h => by
    have h1 := h y (by simp)
    have h2 := sumLeT m ys fun x hx => h x (by simp [hx])
    rw [List.map_cons, List.sum_cons, List.length_cons, Nat.add_mul]
    omega
theorem sc_writ : FnScope ["page", "row"] ["page"] (defScope s_written) := ⟨rfl, rfl, rfl, by decide +kernel, rfl, by decide +kernel, by decide +kernel⟩
theorem ok_writ {f g1 : Addr} {fd fd1 : FuncData} (eT : ∃ t, mg "TAB" = some (.str tabS t)) (eL : ∃ t, mg "LINE_END" = some (.str lineS t)) (F : Fun K "written" "written" s_written f fd)
    (G1 : FnOk P w K mg base CX0 11 g1 fd1 ["page"] (spCheck K cs)) (k1 : PySem.W.keepIn K (.ref g1) = true) (b1 : Binds K fd1 ["page"] []) (m1 : mg "check_page" = some (.ref g1)) : FnOk P w K mg base CX0 12 f fd ["page"] (spWrit K cs) := by
  refine F.ok sc_writ (fun vs H Q E h => ?_) (fun cdv A outer s H vs Q E hr h => ?_)
  · obtain ⟨a, as, rows, rfl, _⟩ := h
    rfl
  · obtain ⟨a, as, rows, rfl, hT, hP, hO, k⟩ := h
    have nd := sc_writ.nd
    obtain ⟨tt, eT⟩ := eT
    obtain ⟨tl, eL⟩ := eL
    have szl : (1000 : Nat) < sizeLine := by decide
    refine ⟨_, pss_cons (ps_expr (pe_call G1 hr (by rfl) m1 k1 b1 .nil pass0 (pa_cons (pv 0) pa_nil))) (pss_one (ps_ret (pe_join (pe_glob (v := .str lineS) rfl eL ⟨_, rfl⟩)
      (pe_lc (own := [("row", 1)]) (g := gName 1) (tt := tYes) rfl nd (pi_list (pv 0)) (blkOk_by (own := [("row", 1)]) (N := ["page", "row"]) (sc := defScope s_written) (by decide +kernel)) (fun _ _ _ _ _ => pg_name (i := 1) nd rfl (Or.inl rfl)) (fun _ _ _ _ _ => pts_nil)
        (fun s1 H1 C1 cl1 fp1 => show PE _ _ (tM1 (rJoin K) (tC (.str tabS)) (tVar 1)) from pe_join (pe_glob (v := .str tabS) (by rfl) eT ⟨_, rfl⟩) (pv 1)))))), ?_⟩
    have hrl : ∀ r ∈ rows, r.length ≤ 6 ∧ ∀ z ∈ r, z.length ≤ 10 := fun r hr => ⟨(hO.rows r hr).2, fun z hz => ((hO.rows r hr).3 z hz).1⟩
    have hl := hO.len
    refine ⟨_, rfl, a, as, rows, rfl, hT, hP, hO, fun H1 x1 => ⟨⟨_, rfl⟩, _, rfl, a, rfl, ⟨_, x1.sqL hP.lst⟩, fun D nD => lc_list (xs := as.map V.ref) (fun i H' => Ex cs H1 H' ∧ H' D = some (.lst (sV ((rows.map rowT).take i))))
      ⟨Ex.laid x1.tab nD, upd_same⟩ (fun i H' _ x => x.1.sqL (x1.sqL hP.lst)) ?_ ?_⟩⟩
    · rintro i v H4 hv ⟨x4, hD4⟩
      obtain ⟨q, hq, rfl⟩ := get_map hv
      have hi := (List.getElem?_eq_some_iff.mp hq).1
      obtain ⟨r, hr2⟩ := getP (xs := rows) (i := i) (by rw [← hP.len]; exact hi)
      obtain ⟨l6, l10⟩ := hrl r (List.mem_of_getElem? hr2)
      have hs := sumLeT 10 r l10
      have e1 : tabS.length = 1 := by decide +kernel
      refine ⟨rfl, ⟨_, rfl⟩, _, rfl, _, q, r, rfl, rfl, .inr ((x1.trans x4).sqT (hP.row i q r hq hr2)), by rw [e1]; omega, _, hD4, ?_, ex_new x1.tab x4 nD, ?_⟩
      · rw [List.length_map, List.length_take]; rw [List.length_map]; have := hP.len; omega
      · have e : (rows.map rowT)[i]? = some (rowT r) := by
          rw [List.getElem?_map, hr2]
          rfl
        rw [upd_same, List.take_add_one, e]
        simp [sV]
        rfl
    · rintro H4 ⟨x4, hD4⟩
      have e2 : (rows.map rowT).take (as.map V.ref).length = rows.map rowT := List.take_of_length_le (by rw [List.length_map, List.length_map, hP.len]; exact Nat.le_refl _)
      rw [e2] at hD4
      have hs := sumLeT 66 (rows.map rowT) fun y hy => by
        obtain ⟨r, hr, rfl⟩ := List.mem_map.mp hy
        exact rowT_len (hO.rows r hr)
      rw [List.length_map] at hs
      have e1 : lineS.length = 1 := by decide +kernel
      exact ⟨_, D, rows.map rowT, rfl, rfl, .inl (SqL.of hD4), by rw [e1, List.length_map]; omega, k H4 (x1.trans x4)⟩
end
end TG

namespace TG
open PySem PySem.Spec PyProof.Rows L2 Gx
/-! ### places of this text -/
abbrev nTable : Nat := 32
abbrev s_marks_there : Stmt := top 33
abbrev s_those_there : Stmt := top 34
abbrev s_text_of : Stmt := top 35
abbrev s_first_there : Stmt := top 36
def clsB : Stmt → List Stmt
  | .ClassDef _ _ _ b _ _ _ _ _ _ _ => b
  | _ => []
def mth (c i : Nat) : Stmt := (clsB (top c)).getD i (.Pass ⟨0, 0, 0, 0⟩)
/-! ### all but some stays -/
def KM (A : Addr → Prop) (H H' : Hp) : Prop := ∀ c o, H c = some o → (∀ ps, o ≠ .tbl ps) → ¬ A c → H' c = some o
/-- no table, or none of these -/
def NT (cs : List (Addr × Addr)) (c : Addr) (o : HO) : Prop := (∀ ps, o ≠ .tbl ps) ∨ ∀ p ∈ cs, p.2 ≠ c
/-- as KM, other tables stay too -/
def KN (cs : List (Addr × Addr)) (A : Addr → Prop) (H H' : Hp) : Prop := ∀ c o, H c = some o → NT cs c o → ¬ A c → H' c = some o
def Mob (H : Hp) (A : Addr → Prop) : Prop := ∀ c, A c → (∃ us, H c = some (.lst us)) ∨ (∃ C dx fs, H c = some (.ins C dx fs))
section
variable {K : PySem.W.Frag} {A B : Addr → Prop} {H H1 H' : Hp}
theorem KM.of (x : LamX.ExtN H H') : KM A H H' := fun c o h n _ => x c o h n
theorem KM.tr (x : KM A H H1) (y : KM A H1 H') : KM A H H' := fun c o h n m => y c o (x c o h n m) n m
theorem KM.mono (x : KM A H H') (h : ∀ c, A c → B c) : KM B H H' := fun c o e n m => x c o e n fun z => m (h c z)
theorem sqT_km {t : Addr} {xs : List V} (x : KM A H H') (m : Mob H A) (h : SqT K H t xs) : SqT K H' t xs := by
  rcases h with (h | ⟨u, h⟩) | h
  · refine .inl (.inl (x _ _ h (fun ps z => by cases z) fun z => ?_))
    rcases m _ z with ⟨us, e⟩ | ⟨C, dx, fs, e⟩ <;> rw [e] at h <;> cases h
  · refine .inl (.inr ⟨u, x _ _ h (fun ps z => by cases z) fun z => ?_⟩)
    rcases m _ z with ⟨us, e⟩ | ⟨C, dx, fs, e⟩ <;> rw [e] at h <;> cases h
  · exact .inr h
theorem tup_km {t : Addr} {xs : List V} (x : KM A H H') (m : Mob H A) (h : H t = some (.tup xs)) : H' t = some (.tup xs) :=
  x _ _ h (fun ps z => by cases z) fun z => by
    rcases m _ z with ⟨us, e⟩ | ⟨C, dx, fs, e⟩ <;> rw [e] at h <;> cases h
theorem upd_km {a : Addr} {o : HO} : KM (fun c => c = a) H (upd H a o) := fun c u h _ n => by rw [upd_ne n]; exact h
theorem same_ex {cs : List (Addr × Addr)} (x : Same H H') (t : Tabs cs H) : Ex cs H H' :=
  ⟨fun b o h _ => x b o h, fun p hp => by
    obtain ⟨ps, h1, h2⟩ := t p hp
    exact ⟨ps, x _ _ h1, h2⟩, fun b h => same_old x h, fun b o h _ => x b o h⟩
theorem _root_.Gx.Ex.any {cs : List (Addr × Addr)} (x : Ex cs H H') {c : Addr} {o : HO} (h : H c = some o) (n : NT cs c o) : H' c = some o := by
  rcases n with n | n
  · exact x.ext _ _ h n
  · exact x.oth _ _ h n
theorem KN.w {cs : List (Addr × Addr)} (x : KN cs A H H') : KM A H H' := fun c o h n m => x c o h (.inl n) m
theorem KN.same {cs : List (Addr × Addr)} (x : Same H H') : KN cs A H H' := fun c o h _ _ => x c o h
theorem KN.tr {cs : List (Addr × Addr)} (x : KN cs A H H1) (y : KN cs A H1 H') : KN cs A H H' := fun c o h n m => y c o (x c o h n m) n m
end
/-! ### marks and deeds -/
abbrev Deed := Nat × Str × Nat × Bool
def dV (d : Deed) : List V := [.int (d.1 : Nat), .str d.2.1, .int (d.2.2.1 : Nat), .bl d.2.2.2]
def nV (l : List Nat) : List V := l.map fun n => V.int (n : Nat)
def bV (l : List Bool) : List V := l.map V.bl
structure DeedsAt (H : Hp) (dl : Addr) (da : List Addr) (ds : List Deed) : Prop where
  lst : H dl = some (.lst (da.map V.ref))
  len : da.length = ds.length
  at_ : ∀ (i : Nat) (t : Addr) (d : Deed), da[i]? = some t → ds[i]? = some d → H t = some (.tup (dV d))
theorem DeedsAt.same {H H' : Hp} {dl : Addr} {da : List Addr} {ds : List Deed} (o : DeedsAt H dl da ds) (x : Same H H') : DeedsAt H' dl da ds :=
  ⟨x _ _ o.lst, o.len, fun i t d h1 h2 => x _ _ (o.at_ i t d h1 h2)⟩
/-- what a deed makes of what is there -/
def markR (th : List Bool) (d : Deed) : List Bool := if d.2.2.2 = decide (d.2.1 = "") then th.set d.2.2.1 false else th
def thereR (many : Nat) (ds : List Deed) : List Bool := ds.foldl markR (List.replicate many true)
theorem markR_len (th : List Bool) (d : Deed) : (markR th d).length = th.length := by
  unfold markR
  split
  · rw [List.length_set]
  · rfl
theorem thereR_len (many : Nat) (ds : List Deed) : (thereR many ds).length = many := by
  have : ∀ (ds : List Deed) (th : List Bool), (ds.foldl markR th).length = th.length := by
    intro ds
    induction ds with
    | nil => intro th; rfl
    | cons d ds ih => intro th; rw [List.foldl_cons, ih, markR_len]
  unfold thereR
  rw [this, List.length_replicate]
def thoseR (order : List Nat) (there : List Bool) : List Nat := order.filter fun m => there.getD m false
def textR (signs : List Str) (marks : List Nat) : Str := Txt.join "" (marks.map fun m => signs.getD m "")
def firstR (order : List Nat) (there : List Bool) (spot : Nat) : Nat := ((order.drop (order.idxOf spot)).find? fun m => there.getD m false).getD 0
theorem nV_get {l : List Nat} {i m : Nat} (h : l[i]? = some m) : (nV l)[i]? = some (.int (m : Nat)) := by unfold nV; rw [List.getElem?_map, h]; rfl
theorem bV_get {l : List Bool} {i : Nat} (h : i < l.length) : (bV l)[i]? = some (.bl (l.getD i false)) := by
  unfold bV
  rw [List.getElem?_map, List.getElem?_eq_getElem h, List.getD_eq_getElem?_getD, List.getElem?_eq_getElem h]
  rfl
theorem ixN_nat {n j : Nat} (h : j < n) : ixN n ((j : Nat) : Int) = some j := by
  unfold ixN
  have e : ¬ ((j : Int) < 0) := by omega
  simp [e, h]
end TG

namespace TG
open PySem PySem.Spec PyProof.Rows L2 Gx
section
variable {P : Program} {w : World} {K : PySem.W.Frag} {mg : Str → Option Value} {base : Heap} {cs : List (Addr × Addr)}
/-! ### those_there -/
def spThose (K : PySem.W.Frag) : Sp := fun vs H Q _ => ∃ (ol tl : Addr) (order : List Nat) (there : List Bool), vs = [.ref ol, .ref tl] ∧ SqL K H ol (nV order) ∧ SqL K H tl (bV there) ∧ (∀ m ∈ order, m < there.length) ∧ order.length ≤ 10000 ∧
  ∀ (D : Addr), H D = none → Q (.ref D) (upd H D (.lst (nV (thoseR order there))))
theorem sc_those : FnScope ["order", "there", "mark"] ["order", "there"] (defScope s_those_there) := ⟨rfl, rfl, rfl, by decide +kernel, rfl, by decide +kernel, by decide +kernel⟩
theorem thoseR_take {order : List Nat} {there : List Bool} {i m : Nat} (h : order[i]? = some m) : thoseR (order.take (i + 1)) there = thoseR (order.take i) there ++ (if there.getD m false = true then [m] else []) := by
  unfold thoseR
  rw [List.take_add_one, h, List.filter_append]
  congr 1
  rw [Option.toList_some, List.filter_cons, List.filter_nil]
theorem ok_those {f : Addr} {fd : FuncData} (F : Fun K "those_there" "those_there" s_those_there f fd) : FnOk P w K mg base CX0 1 f fd ["order", "there"] (spThose K) := by
  refine F.ok sc_those (fun vs H Q E h => ?_) (fun cdv A outer s H vs Q E hr h => ?_)
  · obtain ⟨ol, tl, order, there, rfl, _⟩ := h
    rfl
  · obtain ⟨ol, tl, order, there, rfl, h1, h2, hm, hl, k⟩ := h
    have nd := sc_those.nd
    have szl : (10000 : Nat) < sizeLine := by decide
    refine ⟨_, pss_one (ps_ret (pe_lc (own := [("mark", 2)]) (g := gName 2) rfl nd (pi_list (pv 0)) (blkOk_by (own := [("mark", 2)]) (N := ["order", "there", "mark"]) (sc := defScope s_those_there) (by decide +kernel))
        (fun _ _ _ _ _ => pg_name (i := 2) nd rfl (Or.inl rfl)) (fun _ _ _ _ _ => pts_one (pt_val (pe_ix (r := rIxL K) ix_list (pv 1) (pv 2) (fun _ _ => rfl)))) (fun _ _ _ _ _ => pv 2))), ?_⟩
    refine ⟨_, rfl, ol, rfl, ⟨_, h1⟩, fun D nD => lc_list (xs := nV order) (fun i H' => H' = upd H D (.lst (nV (thoseR (order.take i) there)))) rfl (fun i H' _ x => by rw [x]; exact same_sqL (same_new nD) h1) ?_ ?_⟩
    · rintro i x H' hx rfl
      obtain ⟨m, hmm, rfl⟩ := get_map hx
      have lt := hm m (List.mem_of_getElem? hmm)
      refine ⟨rfl, _, rfl, _, rfl, tl, _, _, _, rfl, rfl, same_sqL (same_new nD) h2, atI_nat (bV_get lt), there.getD m false, rfl, ?_⟩
      rw [thoseR_take hmm]
      cases e : there.getD m false with
      | true =>
        refine iteT ⟨_, rfl, _, upd_same, ?_, ?_⟩
        · have : (thoseR (order.take i) there).length ≤ (order.take i).length := List.length_filter_le _ _
          rw [List.length_take] at this
          unfold nV
          rw [List.length_map]
          omega
        · rw [upd_upd]
          simp [nV]
      | false =>
        refine iteF ?_
        simp
    · rintro H' rfl
      have e : order.take (nV order).length = order := List.take_of_length_le (by unfold nV; rw [List.length_map]; exact Nat.le_refl _)
      rw [e]
      exact k D nD
/-! ### text_of -/
def spTextOf (K : PySem.W.Frag) : Sp := fun vs H Q _ => ∃ (sl ml : Addr) (signs : List Str) (marks : List Nat), vs = [.ref sl, .ref ml] ∧ SqL K H sl (sV signs) ∧ SqL K H ml (nV marks) ∧ (∀ m ∈ marks, m < signs.length) ∧ marks.length ≤ 10000 ∧ (∀ z ∈ signs, z.length ≤ 1) ∧
  ∀ (H' : Hp), Same H H' → Q (.str (textR signs marks)) H'
theorem sc_textof : FnScope ["signs", "marks", "mark"] ["signs", "marks"] (defScope s_text_of) := ⟨rfl, rfl, rfl, by decide +kernel, rfl, by decide +kernel, by decide +kernel⟩
theorem signs_get {signs : List Str} {m : Nat} (h : m < signs.length) : (sV signs)[m]? = some (.str (signs.getD m "")) := by
  unfold sV
  rw [List.getElem?_map, List.getElem?_eq_getElem h, List.getD_eq_getElem?_getD, List.getElem?_eq_getElem h]
  rfl
theorem sum_ones : ∀ (ys : List Str), (∀ y ∈ ys, y.length ≤ 1) → (ys.map (·.length)).sum ≤ ys.length
  | [], _ => Nat.zero_le _
  | y :: ys, h => by
    have h1 := h y (by simp)
    have h2 := sum_ones ys fun x hx => h x (by simp [hx])
    rw [List.map_cons, List.sum_cons, List.length_cons]
    omega
theorem ok_textof {f : Addr} {fd : FuncData} (F : Fun K "text_of" "text_of" s_text_of f fd) : FnOk P w K mg base CX0 1 f fd ["signs", "marks"] (spTextOf K) := by
  refine F.ok sc_textof (fun vs H Q E h => ?_) (fun cdv A outer s H vs Q E hr h => ?_)
  · obtain ⟨sl, ml, signs, marks, rfl, _⟩ := h
    rfl
  · obtain ⟨sl, ml, signs, marks, rfl, h1, h2, hm, hl, hz, k⟩ := h
    have nd := sc_textof.nd
    have szl : (10000 : Nat) < sizeLine := by decide
    refine ⟨_, pss_one (ps_ret (pe_join pe_str (pe_lc (own := [("mark", 2)]) (g := gName 2) (tt := tYes) rfl nd (pi_list (pv 1)) (blkOk_by (own := [("mark", 2)]) (N := ["signs", "marks", "mark"]) (sc := defScope s_text_of) (by decide +kernel))
        (fun _ _ _ _ _ => pg_name (i := 2) nd rfl (Or.inl rfl)) (fun _ _ _ _ _ => pts_nil) (fun _ _ _ _ _ => pe_ix (r := rIxL K) ix_list (pv 0) (pv 2) (fun _ _ => rfl))))), ?_⟩
    refine ⟨⟨_, rfl⟩, _, rfl, ml, rfl, ⟨_, h2⟩, fun D nD => lc_list (xs := nV marks) (fun i H' => H' = upd H D (.lst (sV ((marks.take i).map fun m => signs.getD m "")))) rfl (fun i H' _ x => by rw [x]; exact same_sqL (same_new nD) h2) ?_ ?_⟩
    · rintro i x H' hx rfl
      obtain ⟨m, hmm, rfl⟩ := get_map hx
      have lt := hm m (List.mem_of_getElem? hmm)
      have li := (List.getElem?_eq_some_iff.mp hmm).1
      refine ⟨rfl, _, rfl, _, rfl, sl, _, _, _, rfl, rfl, same_sqL (same_new nD) h1, atI_nat (signs_get lt), _, upd_same, ?_, ?_⟩
      · unfold sV
        rw [List.length_map, List.length_map, List.length_take]
        omega
      · rw [upd_upd, List.take_add_one, hmm]
        simp [sV]
    · rintro H' rfl
      have e : marks.take (nV marks).length = marks := List.take_of_length_le (by unfold nV; rw [List.length_map]; exact Nat.le_refl _)
      rw [e]
      have hs := sum_ones (marks.map fun m => signs.getD m "") fun y hy => by
        obtain ⟨m, hmm, rfl⟩ := List.mem_map.mp hy
        have lt := hm m hmm
        rw [List.getD_eq_getElem?_getD, List.getElem?_eq_getElem lt]
        exact hz _ (List.getElem_mem lt)
      rw [List.length_map] at hs
      have e0 : ("" : Str).length = 0 := by decide +kernel
      exact ⟨_, D, _, rfl, rfl, .inl (SqL.of upd_same), by rw [e0, List.length_map]; omega, k _ (same_new nD)⟩
/-! ### marks_there -/
def spMarks (K : PySem.W.Frag) : Sp := fun vs H Q _ => ∃ (many : Nat) (dl : Addr) (da : List Addr) (ds : List Deed), vs = [.int (many : Nat), .ref dl] ∧ DeedsAt H dl da ds ∧ (∀ d ∈ ds, d.2.2.1 < many) ∧ many ≤ 10000 ∧
  ∀ (D : Addr) (H' : Hp), Same H H' → H D = none → H' D = some (.lst (bV (thereR many ds))) → Q (.ref D) H'
abbrev nmMarks : List Str := ["many", "deeds", "there", "hand", "sign", "mark", "stands"]
theorem sc_marks : FnScope nmMarks ["many", "deeds"] (defScope s_marks_there) := ⟨rfl, rfl, rfl, by decide +kernel, rfl, by decide +kernel, by decide +kernel⟩
theorem thereR_take {many : Nat} {ds : List Deed} {i : Nat} {d : Deed} (h : ds[i]? = some d) : thereR many (ds.take (i + 1)) = markR (thereR many (ds.take i)) d := by
  unfold thereR
  rw [List.take_add_one, h, Option.toList_some, List.foldl_append, List.foldl_cons, List.foldl_nil]
theorem ok_marks {f : Addr} {fd : FuncData} (F : Fun K "marks_there" "marks_there" s_marks_there f fd) : FnOk P w K mg base CX0 1 f fd ["many", "deeds"] (spMarks K) := by
  refine F.ok sc_marks (fun vs H Q E h => ?_) (fun cdv A outer s H vs Q E hr h => ?_)
  · obtain ⟨many, dl, da, ds, rfl, _⟩ := h
    rfl
  · obtain ⟨many, dl, da, ds, rfl, hD, hm, hl, k⟩ := h
    have nd := sc_marks.nd
    have szl : (10000 : Nat) < sizeLine := by decide
    refine ⟨_, pss_cons (ps_set (i := 2) nd rfl (.inl rfl) (pe_op op_rep (pe_lst (pa_cons pe_bl pa_nil)) (pv 0)))
      (pss_cons (ps_for PassesOwn.never rfl (pi_list (pv 1)) (pg_tup rfl (pgs_cons (pg_name (i := 3) nd rfl (.inl rfl)) (pgs_cons (pg_name (i := 4) nd rfl (.inl rfl)) (pgs_cons (pg_name (i := 5) nd rfl (.inl rfl)) (pgs_cons (pg_name (i := 6) nd rfl (.inl rfl)) pgs_nil)))))
        (pss_one (ps_if (pt_cmpR op_eq (pv 6) (pe_cmpR op_eq (pv 4) pe_str (nomark _)) (nomark _)) (pss_one (ps_asg pe_bl (pg_sub (pv 2) (pv 5) set_list))) pss_nil)))
      (pss_one (ps_ret (pv 2)))), ?_⟩
    refine ⟨by show 1 ≤ sizeLine; decide, fun l0 n0 => ⟨_, rfl, l0, _, _, rfl, rfl, upd_same, by omega, by omega, by simp; omega, fun D nD => ?_⟩⟩
    have x0 := same_new (o := .lst [V.bl true]) n0
    have nD0 : H D = none := same_old x0 nD
    have e0 : (List.replicate ((many : Nat) : Int).toNat [V.bl true]).flatten = bV (List.replicate many true) := by
      simp [bV]
    rw [e0]
    have hx : ∀ {o : HO}, Same H (upd (upd H l0 (.lst [V.bl true])) D o) := same_upd x0 nD0
    refine ⟨_, rfl, dl, rfl, ⟨_, SqL.of (hx _ _ hD.lst)⟩, for_list (xs := da.map V.ref) (fun i σ H' => H' = upd (upd H l0 (.lst [V.bl true])) D (.lst (bV (thereR many (ds.take i)))) ∧ ∃ c3 c4 c5 c6 : Option V, σ = [some (.int (many : Nat)), some (.ref dl), some (.ref D), c3, c4, c5, c6]) ⟨rfl, none, none, none, none, rfl⟩ (fun i σ H' _ x => by rw [x.1]; exact SqL.of (hx _ _ hD.lst)) ?_ ?_⟩
    · rintro i x σ H1 hx1 ⟨rfl, c3, c4, c5, c6, rfl⟩
      obtain ⟨t, ht, rfl⟩ := get_map hx1
      obtain ⟨d, hd⟩ := getP (xs := ds) (i := i) (by rw [← hD.len]; exact (List.getElem?_eq_some_iff.mp ht).1)
      have h3 := hD.at_ i t d ht hd
      have lt := hm d (List.mem_of_getElem? hd)
      refine ⟨t, _, rfl, .inl (.inl (hx _ _ h3)), rfl, _, _, rfl, _, _, rfl, _, _, rfl, _, _, rfl, rfl, ?_⟩
      rw [thereR_take hd]
      refine ⟨_, rfl, _, rfl, rfl, rfl, _, rfl, ?_⟩
      have e1 : decide (V.bl d.2.2.2 = V.bl (decide (V.str d.2.1 = V.str ""))) = decide (d.2.2.2 = decide (d.2.1 = "")) := by
        have : decide (V.str d.2.1 = V.str "") = decide (d.2.1 = "") := by simp
        rw [this]
        simp
      rw [e1]
      by_cases c : d.2.2.2 = decide (d.2.1 = "")
      · rw [decide_eq_true c]
        refine iteT ⟨_, rfl, _, rfl, D, _, _, d.2.2.1, rfl, rfl, upd_same, ixN_nat (by unfold bV; rw [List.length_map, thereR_len]; exact lt), ?_⟩
        refine ⟨?_, _, _, _, _, rfl⟩
        rw [upd_upd]
        unfold markR
        rw [if_pos c]
        simp [bV, List.map_set]
      · rw [decide_eq_false c]
        refine iteF ⟨?_, _, _, _, _, rfl⟩
        unfold markR
        rw [if_neg c]
    · rintro σ H1 ⟨rfl, c3, c4, c5, c6, rfl⟩
      refine ⟨_, rfl, k D _ hx nD0 ?_⟩
      have e : ds.take (da.map V.ref).length = ds := List.take_of_length_le (by rw [List.length_map, hD.len]; exact Nat.le_refl _)
      rw [upd_same, e]
/-! ### first_there -/
def spFirst (K : PySem.W.Frag) : Sp := fun vs H Q _ => ∃ (ol tl : Addr) (order : List Nat) (there : List Bool) (spot : Nat), vs = [.ref ol, .ref tl, .int (spot : Nat)] ∧ SqL K H ol (nV order) ∧ SqL K H tl (bV there) ∧ (∀ m ∈ order, m < there.length) ∧ order.length ≤ 10000 ∧ spot ∈ order ∧
  (∃ m ∈ order.drop (order.idxOf spot), there.getD m false = true) ∧ Q (.int (firstR order there spot : Nat)) H
abbrev nmFirst : List Str := ["order", "there", "spot", "number"]
theorem sc_first : FnScope nmFirst ["order", "there", "spot"] (defScope s_first_there) := ⟨rfl, rfl, rfl, by decide +kernel, rfl, by decide +kernel, by decide +kernel⟩
theorem idx_nat {l : List Nat} {p : Nat} (h : p ∈ l) : l[l.idxOf p]? = some p ∧ l.idxOf p < l.length ∧ ∀ m z, m < l.idxOf p → l[m]? = some z → z ≠ p := by
  have h1 := List.idxOf_lt_length_of_mem h
  refine ⟨by rw [List.getElem?_eq_getElem h1, List.getElem_idxOf], h1, fun m z hm hz e => ?_⟩
  subst e
  have h2 := (List.getElem?_eq_some_iff.mp hz).2
  have h3 : m < l.length := (List.getElem?_eq_some_iff.mp hz).1
  have := List.not_of_lt_findIdx (p := (· == z)) (xs := l) (i := m) hm
  simp [h2] at this
theorem firstR_from {order : List Nat} {there : List Bool} {i m : Nat} (h : order[i]? = some m) : (order.drop i).find? (fun m => there.getD m false) = if there.getD m false = true then some m else (order.drop (i + 1)).find? (fun m => there.getD m false) := by
  have lt := (List.getElem?_eq_some_iff.mp h).1
  have e := (List.getElem?_eq_some_iff.mp h).2
  rw [List.drop_eq_getElem_cons lt, e, List.find?_cons]
  cases there.getD m false <;> rfl
theorem ok_first {f : Addr} {fd : FuncData} (F : Fun K "first_there" "first_there" s_first_there f fd) : FnOk P w K mg base CX0 1 f fd ["order", "there", "spot"] (spFirst K) := by
  refine F.ok sc_first (fun vs H Q E h => ?_) (fun cdv A outer s H vs Q E hr h => ?_)
  · obtain ⟨ol, tl, order, there, spot, rfl, _⟩ := h
    rfl
  · obtain ⟨ol, tl, order, there, spot, rfl, h1, h2, hm, hl, hs, hx, k⟩ := h
    have nd := sc_first.nd
    refine ⟨_, pss_cons (ps_set (i := 3) nd rfl (.inl rfl) (pe_bm PySem.F.plainAttrs_list PySem.F.slot_list_index PySem.F.type_list_index mt_index (pv 0) (pa_cons (pv 2) pa_nil)))
      (pss_cons (ps_while PassesOwn.never (pt_not (pt_val (pe_ix ix_list (pv 1) (pe_ix ix_list (pv 0) (pv 3) (fun _ _ => rfl)) (fun _ _ => rfl)))) (pss_one (ps_aug (i := 3) nd rfl (.inl rfl) pe_int ip_add)))
      (pss_one (ps_ret (pe_ix ix_list (pv 0) (pv 3) (fun _ _ => rfl))))), ?_⟩
    obtain ⟨g1, g2, g3⟩ := idx_nat hs
    have fl : (nV order).all flatV = true := by
      unfold nV
      rw [List.all_map]
      exact List.all_eq_true.mpr fun x _ => rfl
    refine ⟨_, rfl, .inl ⟨rfl, _, h1⟩, _, rfl, ol, nV order, .int (spot : Nat), order.idxOf spot, .int (spot : Nat), rfl, rfl, h1, rfl, fl, nV_get g1, by simp [eqV], fun m z hm2 hz => ?_, ?_⟩
    · obtain ⟨q, hq, rfl⟩ := get_map hz
      have ne := g3 m q hm2 hq
      have : ¬ ((q : Int) = (spot : Int)) := by omega
      simp [eqV, this]
    obtain ⟨m0, hm0, ht0⟩ := hx
    have ex0 : ∃ m, (order.drop (order.idxOf spot)).find? (fun m => there.getD m false) = some m := by
      cases e : (order.drop (order.idxOf spot)).find? (fun m => there.getD m false) with
      | some m => exact ⟨m, rfl⟩
      | none => exact absurd ht0 (by have := List.find?_eq_none.mp e m0 hm0; simpa using this)
    have hf : firstR order there spot = ((order.drop (order.idxOf spot)).find? fun m => there.getD m false).getD 0 := rfl
    obtain ⟨mF, hF⟩ := ex0
    rw [hF] at hf
    refine while_by (fun σ H' => H' = H ∧ ∃ i : Nat, σ = [some (.ref ol), some (.ref tl), some (.int (spot : Nat)), some (.int (i : Nat))] ∧ i < order.length ∧ (order.drop i).find? (fun m => there.getD m false) = some mF) (fun σ _ => match σ with | [_, _, _, some (.int i)] => order.length - i.toNat | _ => 0) ⟨rfl, _, rfl, g2, hF⟩ ?_ ?_
    · rintro σ H' ⟨rfl, i, rfl, hi, hfi⟩
      obtain ⟨m, hmi⟩ := getP (xs := order) (i := i) hi
      have lt := hm m (List.mem_of_getElem? hmi)
      rw [firstR_from hmi] at hfi
      refine ⟨_, rfl, _, rfl, _, rfl, ol, _, _, _, rfl, rfl, h1, atI_nat (nV_get hmi), tl, _, _, _, rfl, rfl, h2, atI_nat (bV_get lt), there.getD m false, rfl, ?_⟩
      cases e : there.getD m false with
      | true =>
        rw [e] at hfi
        cases hfi
        refine iteF ?_
        refine ⟨_, rfl, _, rfl, ol, _, _, _, rfl, rfl, h1, atI_nat (nV_get hmi), ?_⟩
        rw [hf] at k
        exact k
      | false =>
        rw [e] at hfi
        refine iteT ⟨_, rfl, _, _, rfl, rfl, ⟨rfl, i + 1, rfl, ?_, hfi⟩, ?_⟩
        · by_cases c : i + 1 < order.length
          · exact c
          · have hfi : (order.drop (i + 1)).find? (fun m => there.getD m false) = some mF := hfi
            rw [List.drop_eq_nil_of_le (by omega)] at hfi
            cases hfi
        · show order.length - (((i : Nat) : Int) + 1).toNat < order.length - (((i : Nat) : Int)).toNat
          omega
    · intro σ H' Q Q' hQ h
      obtain ⟨v1, e1, v2, e2, v3, e3, p, xs, i, v, a1, a2, a3, a4, p', xs', i', v', b1, b2, b3, b4, c, hc, q⟩ := h
      exact ⟨v1, e1, v2, e2, v3, e3, p, xs, i, v, a1, a2, a3, a4, p', xs', i', v', b1, b2, b3, b4, c, hc, hQ _ _ q⟩
end
end TG

namespace TG
open PySem PySem.Spec PyProof.Rows L2 Gx
/-! ### a table as it stands -/
structure TSt where
  signs : List Str
  order : List Nat
  there : List Bool
  deeds : List Deed
  spots : List Nat
  undone : List (List Nat)
structure TA where
  dx : Addr
  st : Addr
  sg : Addr
  od : Addr
  th : Addr
  dl : Addr
  sp : Addr
  ud : Addr
  da : List Addr
  ua : List Addr
abbrev TA.fs (a : TA) : List (Str × V) := [("style", .ref a.st), ("signs", .ref a.sg), ("order", .ref a.od), ("there", .ref a.th), ("deeds", .ref a.dl), ("spots", .ref a.sp), ("undone", .ref a.ud)]
structure TabC (K : PySem.W.Frag) (B : Addr) : Prop where
  cls : Cls K B
  nStyle : NoAttr K B "style"
  nSigns : NoAttr K B "signs"
  nOrder : NoAttr K B "order"
  nThere : NoAttr K B "there"
  nDeeds : NoAttr K B "deeds"
  nSpots : NoAttr K B "spots"
  nUndone : NoAttr K B "undone"
structure TabD (B : Addr) (H : Hp) (tb : Addr) (a : TA) (S : TSt) : Prop where
  ob : H tb = some (.ins B a.dx a.fs)
  sg : H a.sg = some (.lst (sV S.signs))
  od : H a.od = some (.lst (nV S.order))
  th : H a.th = some (.lst (bV S.there))
  de : DeedsAt H a.dl a.da S.deeds
  sp : H a.sp = some (.lst (nV S.spots))
  ud : H a.ud = some (.lst (a.ua.map V.ref))
  ul : a.ua.length = S.undone.length
  un : ∀ (i : Nat) (u : Addr) (l : List Nat), a.ua[i]? = some u → S.undone[i]? = some l → H u = some (.lst (nV l))
  nd : (a.sp :: a.ud :: a.ua).Nodup
  dj : ∀ c ∈ a.sp :: a.ud :: a.ua, c ≠ a.sg ∧ c ≠ a.od ∧ c ≠ a.th ∧ c ≠ a.dl
/-- what a table may change -/
def ownT (tb : Addr) (a : TA) : Addr → Prop := fun c => c = tb ∨ c = a.sg ∨ c = a.od ∨ c = a.th ∨ c = a.dl ∨ c = a.sp ∨ c = a.ud ∨ c ∈ a.ua
section
variable {B tb : Addr} {H H' : Hp} {a : TA} {S : TSt} {A : Addr → Prop}
theorem TabD.mob (o : TabD B H tb a S) : Mob H (ownT tb a) := fun c hc => by
  rcases hc with e | e | e | e | e | e | e | e
  · exact .inr ⟨_, _, _, e ▸ o.ob⟩
  · exact .inl ⟨_, e ▸ o.sg⟩
  · exact .inl ⟨_, e ▸ o.od⟩
  · exact .inl ⟨_, e ▸ o.th⟩
  · exact .inl ⟨_, e ▸ o.de.lst⟩
  · exact .inl ⟨_, e ▸ o.sp⟩
  · exact .inl ⟨_, e ▸ o.ud⟩
  · obtain ⟨i, hi⟩ := List.mem_iff_getElem?.mp e
    obtain ⟨l, hl⟩ := getP (xs := S.undone) (i := i) (by rw [← o.ul]; exact (List.getElem?_eq_some_iff.mp hi).1)
    exact .inl ⟨_, o.un i c l hi hl⟩
theorem TabD.km (o : TabD B H tb a S) (x : KM A H H') (m : Mob H A) (n : ∀ c, ownT tb a c → ¬ A c) : TabD B H' tb a S := by
  have f : ∀ {c : Addr} {xs : List V}, ownT tb a c → H c = some (.lst xs) → H' c = some (.lst xs) := fun {c xs} hc h => x _ _ h (fun ps z => by cases z) (n c hc)
  exact ⟨x _ _ o.ob (fun ps z => by cases z) (n _ (.inl rfl)), f (.inr (.inl rfl)) o.sg, f (.inr (.inr (.inl rfl))) o.od, f (.inr (.inr (.inr (.inl rfl)))) o.th,
    ⟨f (.inr (.inr (.inr (.inr (.inl rfl))))) o.de.lst, o.de.len, fun i t d h1 h2 => tup_km x m (o.de.at_ i t d h1 h2)⟩, f (.inr (.inr (.inr (.inr (.inr (.inl rfl)))))) o.sp,
    f (.inr (.inr (.inr (.inr (.inr (.inr (.inl rfl))))))) o.ud, o.ul, fun i u l h1 h2 => f (.inr (.inr (.inr (.inr (.inr (.inr (.inr (List.mem_of_getElem? h1)))))))) (o.un i u l h1 h2), o.nd, o.dj⟩
theorem TabD.gw (o : TabD B H tb a S) (x : LamX.ExtN H H') : TabD B H' tb a S := o.km (A := fun _ => False) (KM.of x) (fun c h => h.elim) fun c _ h => h
theorem same_extN {H H' : Hp} (x : Same H H') : LamX.ExtN H H' := fun b o h _ => x b o h
theorem TabD.same (o : TabD B H tb a S) (x : Same H H') : TabD B H' tb a S := o.gw (same_extN x)
/-- one of its lists is written -/
theorem upd_own {c : Addr} {o : HO} (h : ownT tb a c) : KM (ownT tb a) H (upd H c o) := fun b u hb _ n => by rw [upd_ne (fun z => n (by rw [z]; exact h))]; exact hb
theorem upd_ownN {cs : List (Addr × Addr)} {c : Addr} {o : HO} (h : ownT tb a c) : KN cs (ownT tb a) H (upd H c o) := fun b u hb _ n => by rw [upd_ne (fun z => n (by rw [z]; exact h))]; exact hb
theorem TabD.hand (o : TabD B H tb a S) (l : List Nat) : TabD B (upd H a.sp (.lst (nV l))) tb a { S with spots := l } := by
  have d := o.dj a.sp (by simp)
  have nd := o.nd
  rw [List.nodup_cons, List.mem_cons, List.nodup_cons] at nd
  have f : ∀ {c : Addr} {u : HO}, c ≠ a.sp → H c = some u → upd H a.sp (.lst (nV l)) c = some u := fun n h => by rw [upd_ne n]; exact h
  have ft : ∀ {c : Addr} {us : List V}, H c = some (.tup us) → c ≠ a.sp := fun h e => by rw [e, o.sp] at h; cases h
  exact ⟨f (fun e => by have := o.ob; rw [e, o.sp] at this; cases this) o.ob, f d.1.symm o.sg, f d.2.1.symm o.od, f d.2.2.1.symm o.th,
    ⟨f d.2.2.2.symm o.de.lst, o.de.len, fun i t dd h1 h2 => f (ft (o.de.at_ i t dd h1 h2)) (o.de.at_ i t dd h1 h2)⟩, upd_same, f (fun e => nd.1 (.inl e.symm)) o.ud, o.ul,
    fun i u m h1 h2 => f (fun e => nd.1 (.inr (e ▸ List.mem_of_getElem? h1))) (o.un i u m h1 h2), o.nd, o.dj⟩
end
/-! ### what it is for -/
structure TOk (S : TSt) : Prop where
  one : ∀ z ∈ S.signs, z.length ≤ 1
  many : S.signs.length ≤ 9000
  ord : ∀ m ∈ S.order, m < S.signs.length
  ol : S.order.length ≤ 9000
  tl : S.there.length = S.signs.length
  dm : ∀ d ∈ S.deeds, d.2.2.1 < S.signs.length
  dn : S.deeds.length ≤ 9000
  sp : ∀ s ∈ S.spots, s ∈ thoseR S.order S.there
  hn : S.spots.length = S.undone.length
  h4 : S.spots.length ≤ 4
  un : ∀ l ∈ S.undone, l.length ≤ 9000 ∧ ∀ n ∈ l, n < S.deeds.length
abbrev hereR (S : TSt) : List Nat := thoseR S.order S.there
def nearR (S : TSt) (h : Nat) (by_ : Int) : Option Nat :=
  if 0 ≤ (((hereR S).idxOf (S.spots.getD h 0) : Nat) : Int) + by_ ∧ (((hereR S).idxOf (S.spots.getD h 0) : Nat) : Int) + by_ < ((hereR S).length : Nat) then (hereR S)[((((hereR S).idxOf (S.spots.getD h 0) : Nat) : Int) + by_).toNat]? else none
def goR1 (S : TSt) (h : Nat) (by_ : Int) : Bool × TSt := match nearR S h by_ with
  | none => (false, S)
  | some m => (true, { S with spots := S.spots.set h m })
def nonN : Option Nat → V
  | none => .non
  | some n => .int (n : Nat)
theorem hereR_len (S : TSt) : (hereR S).length ≤ S.order.length := List.length_filter_le _ _
theorem hereR_lt {S : TSt} (o : TOk S) : ∀ m ∈ hereR S, m < S.signs.length := fun m hm => o.ord m (List.mem_filter.mp hm).1
theorem nV_len (l : List Nat) : (nV l).length = l.length := by unfold nV; rw [List.length_map]
theorem getD_spot {S : TSt} {h : Nat} (hh : h < S.spots.length) : S.spots[h]? = some (S.spots.getD h 0) := by
  rw [List.getD_eq_getElem?_getD, List.getElem?_eq_getElem hh]
  rfl
theorem tabs_lst {cs : List (Addr × Addr)} {H : Hp} {a : Addr} {us : List V} {o : HO} (t : Tabs cs H) (h : H a = some (.lst us)) : Tabs cs (upd H a o) := fun p hp => by
  obtain ⟨ps, h1, h2⟩ := t p hp
  exact ⟨ps, by rw [upd_ne fun z => by rw [z, h] at h1; cases h1]; exact h1, h2⟩
theorem upd_old {H : Hp} {a : Addr} {u o : HO} (h : H a = some u) {b : Addr} (hb : upd H a o b = none) : H b = none := by
  by_cases z : b = a
  · rw [z, upd_same] at hb; cases hb
  · rw [upd_ne z] at hb; exact hb
theorem ints_flat (l : List Nat) : (nV l).all flatV = true := by
  unfold nV
  rw [List.all_map]
  exact List.all_eq_true.mpr fun x _ => rfl
theorem ints_no {l : List Nat} {p : Nat} (g : ∀ m z, m < l.idxOf p → l[m]? = some z → z ≠ p) (m : Nat) (z : V) (hm : m < l.idxOf p) (hz : (nV l)[m]? = some z) : eqV z (.int (p : Nat)) = false := by
  obtain ⟨q, hq, rfl⟩ := get_map hz
  have ne := g m q hm hq
  have : ¬ ((q : Int) = (p : Int)) := by omega
  simp [eqV, this]
section
variable {P : Program} {w : World} {K : PySem.W.Frag} {mg : Str → Option Value} {base : Heap} {cs : List (Addr × Addr)} {B : Addr}
def spWholeB : Sp := fun vs H Q _ => ∃ (i lo hi : Int), vs = [.int i, .int lo, .int hi] ∧ Q (.bl (decide (lo ≤ i ∧ i ≤ hi))) H
theorem ok_wholeB {f : Addr} {fd : FuncData} (T : Txt mg) (F : Fun K "is_whole" "is_whole" s_is_whole f fd) : FnOk P w K mg base CX0 1 f fd ["value", "low", "high"] spWholeB := by
  refine F.ok sc_whole (fun vs H Q E h => ?_) (fun cdv A outer s H vs Q E hr h => ?_)
  · obtain ⟨i, lo, hi, rfl, _⟩ := h
    rfl
  · obtain ⟨i, lo, hi, rfl, k⟩ := h
    refine ⟨_, pss_one (ps_ret (pe_and (pe_callB call_isi (by rfl) T.isin (by decide +kernel) (pa_cons (pv 0) (pa_cons (pe_bltn (v := .ty "int") (by rfl) T.int (by decide +kernel) rfl) pa_nil)))
      (pe_and (pe_not (pe_callB call_isi (by rfl) T.isin (by decide +kernel) (pa_cons (pv 0) (pa_cons (pe_bltn (v := .ty "bool") (by rfl) T.bool (by decide +kernel) rfl) pa_nil)))) (pe_one (pe_chain op_le op_le (pv 1) (pv 0) (pv 2)))))), ?_⟩
    refine ⟨_, rfl, _, _, _, _, true, rfl, .ty _, .base (.int i), kit_ty (by decide +kernel), true, rfl, iteT ⟨_, rfl, _, _, _, _, false, rfl, .ty _, .base (.int i), kit_ty (by decide +kernel), false, rfl, true, rfl, iteT ⟨_, rfl, _, rfl, lo, i, rfl, rfl, ?_⟩⟩⟩
    by_cases h1 : lo ≤ i
    · refine ⟨true, dT h1, iteT ⟨_, rfl, i, hi, rfl, rfl, ?_⟩⟩
      have e : decide (lo ≤ i ∧ i ≤ hi) = decide (i ≤ hi) := by simp [h1]
      rw [e] at k
      exact k
    · have e : decide (lo ≤ i ∧ i ≤ hi) = false := decide_eq_false fun z => h1 z.1
      rw [e] at k
      exact ⟨false, dF h1, iteF k⟩
/-! ### check_hand -/
def spHand (B : Addr) : Sp := fun vs H Q _ => ∃ (tb : Addr) (h : Nat) (a : TA) (S : TSt), vs = [.ref tb, .int (h : Nat)] ∧ TabD B H tb a S ∧ h < S.spots.length ∧ Q .non H
theorem sc_chand : FnScope ["self", "hand"] ["self", "hand"] (defScope (mth nTable 11)) := ⟨rfl, rfl, rfl, by decide +kernel, rfl, by decide +kernel, by decide +kernel⟩
theorem ok_chand {f g : Addr} {fd fdg : FuncData} (T : Txt mg) (X : TabC K B) (F : Fun K "check_hand" "Table.check_hand" (mth nTable 11) f fd)
    (W : FnOk P w K mg base CX0 1 g fdg ["value", "low", "high"] spWholeB) (kp : PySem.W.keepIn K (.ref g) = true) (bd : Binds K fdg ["value", "low", "high"] []) (mgg : mg "is_whole" = some (.ref g)) : FnOk P w K mg base CX0 2 f fd ["self", "hand"] (spHand B) := by
  refine F.ok sc_chand (fun vs H Q E h => ?_) (fun cdv A outer s H vs Q E hr h => ?_)
  · obtain ⟨tb, h, a, S, rfl, _⟩ := h
    rfl
  · obtain ⟨tb, h, a, S, rfl, hD, hh, k⟩ := h
    refine ⟨_, pss_one (ps_if (pt_not (pt_val (pe_call W hr (by rfl) mgg kp bd .nil pass0 (pa_cons (pv 1) (pa_cons pe_int (pa_cons (pe_op op_sub (pe_callB call_len_seq (by rfl) T.len PySem.boot_len (pa_cons (pe_fld (pv 0) rfl) pa_nil)) pe_int) pa_nil)))))) (pss_one ps_never) pss_nil), ?_⟩
    refine ⟨_, rfl, _, rfl, tb, B, a.dx, _, _, rfl, hD.ob, X.cls, X.nSpots, rfl, a.sp, _, rfl, .inl (SqL.of hD.sp), _, _, rfl, rfl, _, _, _, rfl, true, ?_, iteF k⟩
    rw [nV_len, decide_eq_true ⟨by omega, by omega⟩]
/-! ### present -/
def spPresent (B : Addr) : Sp := fun vs H Q _ => ∃ (tb : Addr) (a : TA) (S : TSt), vs = [.ref tb] ∧ TabD B H tb a S ∧ TOk S ∧ ∀ D, H D = none → Q (.ref D) (upd H D (.lst (nV (hereR S))))
theorem sc_present : FnScope ["self"] ["self"] (defScope (mth nTable 12)) := ⟨rfl, rfl, rfl, by decide +kernel, rfl, by decide +kernel, by decide +kernel⟩
theorem ok_present {f g : Addr} {fd fdg : FuncData} (X : TabC K B) (F : Fun K "present" "Table.present" (mth nTable 12) f fd)
    (G : FnOk P w K mg base CX0 1 g fdg ["order", "there"] (spThose K)) (kp : PySem.W.keepIn K (.ref g) = true) (bd : Binds K fdg ["order", "there"] []) (mgg : mg "those_there" = some (.ref g)) : FnOk P w K mg base CX0 2 f fd ["self"] (spPresent B) := by
  refine F.ok sc_present (fun vs H Q E h => ?_) (fun cdv A outer s H vs Q E hr h => ?_)
  · obtain ⟨tb, a, S, rfl, _⟩ := h
    rfl
  · obtain ⟨tb, a, S, rfl, hD, hO, k⟩ := h
    refine ⟨_, pss_one (ps_ret (pe_call G hr (by rfl) mgg kp bd .nil pass0 (pa_cons (pe_fld (pv 0) rfl) (pa_cons (pe_fld (pv 0) rfl) pa_nil)))), ?_⟩
    exact ⟨_, rfl, tb, B, a.dx, _, _, rfl, hD.ob, X.cls, X.nOrder, rfl, _, rfl, tb, B, a.dx, _, _, rfl, hD.ob, X.cls, X.nThere, rfl, a.od, a.th, S.order, S.there, rfl, SqL.of hD.od, SqL.of hD.th, fun m hm => by rw [hO.tl]; exact hO.ord m hm, by have := hO.ol; omega, k⟩
/-! ### near -/
def spNear (B : Addr) : Sp := fun vs H Q _ => ∃ (tb : Addr) (h : Nat) (by_ : Int) (a : TA) (S : TSt), vs = [.ref tb, .int (h : Nat), .int by_] ∧ TabD B H tb a S ∧ TOk S ∧ h < S.spots.length ∧ ∀ H', Same H H' → Q (nonN (nearR S h by_)) H'
abbrev nmNear : List Str := ["self", "hand", "by", "present", "number"]
theorem sc_near : FnScope nmNear ["self", "hand", "by"] (defScope (mth nTable 13)) := ⟨rfl, rfl, rfl, by decide +kernel, rfl, by decide +kernel, by decide +kernel⟩
theorem ok_near {f g : Addr} {fd fdg : FuncData} (T : Txt mg) (X : TabC K B) (F : Fun K "near" "Table.near" (mth nTable 13) f fd)
    (M : Meth K B "present" g) (G : FnOk P w K mg base CX0 2 g fdg ["self"] (spPresent B)) (bd : Binds K fdg ["self"] []) : FnOk P w K mg base CX0 3 f fd ["self", "hand", "by"] (spNear B) := by
  refine F.ok sc_near (fun vs H Q E h => ?_) (fun cdv A outer s H vs Q E hr h => ?_)
  · obtain ⟨tb, h, by_, a, S, rfl, _⟩ := h
    rfl
  · obtain ⟨tb, h, by_, a, S, rfl, hD, hO, hh, k⟩ := h
    have nd := sc_near.nd
    refine ⟨_, pss_cons (ps_set (i := 3) nd rfl (.inl rfl) (pe_meth0 (pv 0) X.cls M G hr bd .nil pass0))
      (pss_cons (ps_set (i := 4) nd rfl (.inl rfl) (pe_op op_add (pe_bm PySem.F.plainAttrs_list PySem.F.slot_list_index PySem.F.type_list_index mt_index (pv 3) (pa_cons (pe_ix ix_list (pe_fld (pv 0) rfl) (pv 1) (fun _ _ => rfl)) pa_nil)) (pv 2)))
      (pss_cons (ps_if (pt_chain op_le op_lt pe_int (pv 4) (pe_callB call_len_seq (by rfl) T.len PySem.boot_len (pa_cons (pv 3) pa_nil))) (pss_one (ps_ret (pe_ix ix_list (pv 3) (pv 4) (fun _ _ => rfl)))) pss_nil)
      (pss_one (ps_ret pe_non)))), ?_⟩
    refine ⟨_, rfl, tb, a.dx, _, rfl, hD.ob, rfl, tb, a, S, rfl, hD, hO, fun D nD => ?_⟩
    have x1 := same_new (o := .lst (nV (hereR S))) nD
    have hD1 := hD.same x1
    have h1 : upd H D (.lst (nV (hereR S))) D = some (.lst (nV (hereR S))) := upd_same
    generalize upd H D (.lst (nV (hereR S))) = H1 at x1 hD1 h1 ⊢
    have hs := getD_spot hh
    obtain ⟨g1, g2, g3⟩ := idx_nat (hO.sp _ (List.mem_of_getElem? hs))
    refine ⟨_, rfl, .inl ⟨rfl, _, SqL.of h1⟩, _, rfl, tb, B, a.dx, _, _, rfl, hD1.ob, X.cls, X.nSpots, rfl, _, rfl, a.sp, _, _, _, rfl, rfl, SqL.of hD1.sp, atI_nat (nV_get hs), D, nV (hereR S), .int (S.spots.getD h 0 : Nat), (hereR S).idxOf (S.spots.getD h 0), .int (S.spots.getD h 0 : Nat), rfl, rfl, SqL.of h1, rfl, ints_flat _, nV_get g1, by simp [eqV], ints_no g3, ?_⟩
    refine ⟨_, rfl, _, _, rfl, rfl, ?_⟩
    have eb : nearR S h by_ = if 0 ≤ (((hereR S).idxOf (S.spots.getD h 0) : Nat) : Int) + by_ ∧ (((hereR S).idxOf (S.spots.getD h 0) : Nat) : Int) + by_ < ((hereR S).length : Nat) then (hereR S)[((((hereR S).idxOf (S.spots.getD h 0) : Nat) : Int) + by_).toNat]? else none := rfl
    dsimp only
    generalize (((hereR S).idxOf (S.spots.getD h 0) : Nat) : Int) + by_ = n at eb ⊢
    refine ⟨_, rfl, 0, n, rfl, rfl, ?_⟩
    by_cases c1 : 0 ≤ n
    · refine ⟨true, dT c1, iteT ⟨_, rfl, D, _, rfl, .inl (SqL.of h1), n, _, rfl, rfl, ?_⟩⟩
      rw [nV_len]
      by_cases c2 : n < ((hereR S).length : Nat)
      · refine ⟨true, dT c2, iteT ?_⟩
        obtain ⟨m, rfl⟩ := Int.eq_ofNat_of_zero_le c1
        have hm : m < (hereR S).length := by omega
        rw [if_pos ⟨c1, c2⟩] at eb
        have em : ((m : Nat) : Int).toNat = m := rfl
        rw [em] at eb
        obtain ⟨q, hq⟩ := getP (xs := hereR S) (i := m) hm
        refine ⟨_, rfl, _, rfl, D, _, _, .int (q : Nat), rfl, rfl, SqL.of h1, atI_nat (nV_get hq), ?_⟩
        have := k _ x1
        rw [eb, hq] at this
        exact this
      · refine ⟨false, dF c2, iteF ?_⟩
        rw [if_neg fun z => c2 z.2] at eb
        have := k _ x1
        rw [eb] at this
        exact this
    · refine ⟨false, dF c1, iteF ?_⟩
      rw [if_neg fun z => c1 z.1] at eb
      have := k _ x1
      rw [eb] at this
      exact ⟨_, rfl, iteF this⟩
/-! ### go, right -/
/-- what a table does, if it doesn't fail -/
def Went (cs : List (Addr × Addr)) (B : Addr) (H : Hp) (tb : Addr) (a : TA) (S' : TSt) (Q : Hp → Prop) : Prop :=
  ∀ (a' : TA) (H' : Hp), KN cs (ownT tb a) H H' → (∀ c, ownT tb a' c → ownT tb a c ∨ H c = none) → Tabs cs H' → (∀ b, H' b = none → H b = none) → TabD B H' tb a' S' → Q H'
def spGo (cs : List (Addr × Addr)) (B : Addr) : Sp := fun vs H Q _ => ∃ (tb : Addr) (h : Nat) (by_ : Int) (a : TA) (S : TSt), vs = [.ref tb, .int (h : Nat), .int by_] ∧ Tabs cs H ∧ TabD B H tb a S ∧ TOk S ∧ h < S.spots.length ∧ Went cs B H tb a (goR1 S h by_).2 fun H' => Q (.bl (goR1 S h by_).1) H'
abbrev nmGo : List Str := ["self", "hand", "by", "mark"]
theorem sc_go : FnScope nmGo ["self", "hand", "by"] (defScope (mth nTable 14)) := ⟨rfl, rfl, rfl, by decide +kernel, rfl, by decide +kernel, by decide +kernel⟩
theorem ok_go {f g : Addr} {fd fdg : FuncData} (X : TabC K B) (F : Fun K "go" "Table.go" (mth nTable 14) f fd)
    (M : Meth K B "near" g) (G : FnOk P w K mg base CX0 3 g fdg ["self", "hand", "by"] (spNear B)) (bd : Binds K fdg ["self", "hand", "by"] []) : FnOk P w K mg base CX0 4 f fd ["self", "hand", "by"] (spGo cs B) := by
  refine F.ok sc_go (fun vs H Q E h => ?_) (fun cdv A outer s H vs Q E hr h => ?_)
  · obtain ⟨tb, h, by_, a, S, rfl, _⟩ := h
    rfl
  · obtain ⟨tb, h, by_, a, S, rfl, hT, hD, hO, hh, k⟩ := h
    have nd := sc_go.nd
    refine ⟨_, pss_cons (ps_set (i := 3) nd rfl (.inl rfl) (pe_meth (pv 0) X.cls M G hr bd .nil pass0 (pa_cons (pv 1) (pa_cons (pv 2) pa_nil))))
      (pss_cons (ps_if (pt_cmpR op_isN (pv 3) pe_non (nomark _)) (pss_one (ps_ret pe_bl)) pss_nil)
      (pss_cons (ps_asg (pv 3) (pg_sub (pe_fld (pv 0) rfl) (pv 1) set_list)) (pss_one (ps_ret pe_bl)))), ?_⟩
    refine ⟨_, rfl, tb, a.dx, _, rfl, hD.ob, rfl, _, rfl, _, rfl, tb, h, by_, a, S, rfl, hD, hO, hh, fun H1 x1 => ?_⟩
    have hD1 := hD.same x1
    have t1 := (same_ex x1 hT).tab
    unfold goR1 at k
    cases e : nearR S h by_ with
    | none =>
      rw [e] at k
      exact ⟨_, rfl, rfl, true, rfl, iteT (k a H1 (KN.same x1) (fun c hc => .inl hc) t1 (fun b hb => same_old x1 hb) hD1)⟩
    | some m =>
      rw [e] at k
      refine ⟨_, rfl, rfl, false, rfl, iteF ⟨_, rfl, _, rfl, tb, B, a.dx, _, _, rfl, hD1.ob, X.cls, X.nSpots, rfl, _, rfl, a.sp, _, _, h, rfl, rfl, hD1.sp, ixN_nat (by rw [nV_len]; exact hh), ?_⟩⟩
      have es : (nV S.spots).set h (nonN (some m)) = nV (S.spots.set h m) := by unfold nV; rw [List.map_set]; rfl
      dsimp only
      rw [es]
      exact k a _ ((KN.same x1).tr (upd_ownN (.inr (.inr (.inr (.inr (.inr (.inl rfl)))))))) (fun c hc => .inl hc) (tabs_lst t1 hD1.sp) (fun b hb => same_old x1 (upd_old hD1.sp hb)) (hD1.hand _)
def spTRight (cs : List (Addr × Addr)) (B : Addr) : Sp := fun vs H Q _ => ∃ (tb : Addr) (h : Nat) (a : TA) (S : TSt), vs = [.ref tb, .int (h : Nat)] ∧ Tabs cs H ∧ TabD B H tb a S ∧ TOk S ∧ h < S.spots.length ∧ Went cs B H tb a (goR1 S h 1).2 fun H' => Q (.bl (goR1 S h 1).1) H'
theorem sc_tright : FnScope ["self", "hand"] ["self", "hand"] (defScope (mth nTable 6)) := ⟨rfl, rfl, rfl, by decide +kernel, rfl, by decide +kernel, by decide +kernel⟩
theorem ok_tright {f g1 g2 : Addr} {fd fd1 fd2 : FuncData} (X : TabC K B) (F : Fun K "right" "Table.right" (mth nTable 6) f fd)
    (M1 : Meth K B "check_hand" g1) (G1 : FnOk P w K mg base CX0 2 g1 fd1 ["self", "hand"] (spHand B)) (b1 : Binds K fd1 ["self", "hand"] [])
    (M2 : Meth K B "go" g2) (G2 : FnOk P w K mg base CX0 4 g2 fd2 ["self", "hand", "by"] (spGo cs B)) (b2 : Binds K fd2 ["self", "hand", "by"] []) : FnOk P w K mg base CX0 5 f fd ["self", "hand"] (spTRight cs B) := by
  refine F.ok sc_tright (fun vs H Q E h => ?_) (fun cdv A outer s H vs Q E hr h => ?_)
  · obtain ⟨tb, h, a, S, rfl, _⟩ := h
    rfl
  · obtain ⟨tb, h, a, S, rfl, hT, hD, hO, hh, k⟩ := h
    have r2 : Room 2 _ := hr.mono (by decide)
    refine ⟨_, pss_cons (ps_expr (pe_meth (pv 0) X.cls M1 G1 r2 b1 .nil pass0 (pa_cons (pv 1) pa_nil))) (pss_one (ps_ret (pe_meth (pv 0) X.cls M2 G2 hr b2 .nil pass0 (pa_cons (pv 1) (pa_cons pe_int pa_nil))))), ?_⟩
    exact ⟨_, rfl, tb, a.dx, _, rfl, hD.ob, rfl, _, rfl, tb, h, a, S, rfl, hD, hh, _, rfl, tb, a.dx, _, rfl, hD.ob, rfl, _, rfl, tb, h, 1, a, S, rfl, hT, hD, hO, hh, k⟩
end
end TG

namespace TG
open PySem PySem.Spec PyProof.Rows L2 Gx
/-! ### new tuples in a new list -/
structure TupL (H0 : Hp) (D : Addr) (l : List (List V)) (H : Hp) : Prop where
  sm : Same H0 H
  nD : H0 D = none
  ts : ∃ ts : List Addr, H D = some (.lst (ts.map V.ref)) ∧ ts.length = l.length ∧ ∀ (j : Nat) (t : Addr) (v : List V), ts[j]? = some t → l[j]? = some v → H t = some (.tup v)
theorem TupL.start {H0 : Hp} {D : Addr} (n : H0 D = none) : TupL H0 D [] (upd H0 D (.lst [])) := ⟨same_new n, n, [], upd_same, rfl, fun j t v h => by cases h⟩
theorem TupL.grow {H0 H H' : Hp} {D : Addr} {l : List (List V)} (o : TupL H0 D l H) (x : Same H H') : TupL H0 D l H' := by
  obtain ⟨ts, h1, h2, h3⟩ := o.ts
  exact ⟨fun b u e => x b u (o.sm b u e), o.nD, ts, x _ _ h1, h2, fun j t v e1 e2 => x _ _ (h3 j t v e1 e2)⟩
theorem TupL.more {H0 H : Hp} {D t : Addr} {l : List (List V)} {v : List V} (o : TupL H0 D l H) (ht : H t = some (.tup v)) : ∃ acc, H D = some (.lst acc) ∧ acc.length = l.length ∧ TupL H0 D (l ++ [v]) (upd H D (.lst (acc ++ [.ref t]))) := by
  obtain ⟨ts, h1, h2, h3⟩ := o.ts
  have tD : ∀ {t : Addr} {v : List V}, H t = some (.tup v) → t ≠ D := fun {t v} h z => by rw [z, h1] at h; cases h
  refine ⟨_, h1, by rw [List.length_map, h2], fun b u e => by rw [upd_ne (ne_of_none e o.nD)]; exact o.sm b u e, o.nD, ts ++ [t], by rw [upd_same]; simp, by rw [List.length_append, List.length_append, h2]; rfl, fun j s u e1 e2 => ?_⟩
  by_cases hj : j < ts.length
  · rw [List.getElem?_append_left hj] at e1
    rw [List.getElem?_append_left (by rw [← h2]; exact hj)] at e2
    have := h3 j s u e1 e2
    rw [upd_ne (tD this)]
    exact this
  · have hl := (List.getElem?_eq_some_iff.mp e1).1
    rw [List.length_append, List.length_singleton] at hl
    have ej : j = ts.length := by omega
    subst ej
    rw [List.getElem?_append_right (Nat.le_refl _), Nat.sub_self] at e1
    rw [h2, List.getElem?_append_right (Nat.le_refl _), Nat.sub_self] at e2
    cases e1
    cases e2
    rw [upd_ne (tD ht)]
    exact ht
/-! ### places -/
theorem cut_toV {xs : List V} {k : Nat} : cutV xs none (some (k : Int)) = xs.take k := by
  unfold cutV
  rw [HT.sIx_nat, HT.sIx_none, List.drop_zero, Nat.sub_zero]
  by_cases h : k ≤ xs.length
  · rw [Nat.min_eq_left h]
  · rw [Nat.min_eq_right (by omega), List.take_of_length_le (Nat.le_refl _), List.take_of_length_le (show xs.length ≤ k by omega)]
/-- what a table tells of its deeds -/
def toldV (d : Deed) : List V := [.int (d.1 : Nat), .str d.2.1, .bl d.2.2.2]
/-- where a hand stands -/
def atR (S : TSt) (h : Nat) : Nat × Nat × Nat :=
  let R := rowsT (textR S.signs ((hereR S).take ((hereR S).idxOf (S.spots.getD h 0))))
  (R.length - 1, (R.getLast?.getD []).length - 1, ((R.getLast?.getD []).getLast?.getD "").length)
theorem textR_len {signs : List Str} {marks : List Nat} (h1 : ∀ z ∈ signs, z.length ≤ 1) : (textR signs marks).length ≤ marks.length := by
  have e : (textR signs marks).length = ((marks.map fun m => signs.getD m "").map (·.length)).sum := by
    unfold textR
    rw [len_cl, cl_joinL]
    have : ∀ ys : List Str, (TL.joinL (cl "") (ys.map cl)).length = (ys.map (·.length)).sum := by
      intro ys
      induction ys with
      | nil => rfl
      | cons y ys ih =>
        have e0 : cl ("" : Str) = [] := by decide +kernel
        rw [e0] at ih ⊢
        cases ys with
        | nil => simp [TL.joinL, len_cl]
        | cons z zs =>
          have e1 : ((y :: z :: zs).map (·.length)).sum = y.length + ((z :: zs).map (·.length)).sum := by rw [List.map_cons, List.sum_cons]
          rw [e1, ← ih]
          show ((cl y) ++ ([] ++ TL.joinL [] ((z :: zs).map cl))).length = _
          rw [List.nil_append, List.length_append, len_cl]
    exact this _
  rw [e]
  have hs := sum_ones (marks.map fun m => signs.getD m "") fun y hy => by
    obtain ⟨m, hmm, rfl⟩ := List.mem_map.mp hy
    rw [List.getD_eq_getElem?_getD]
    cases q : signs[m]? with
    | none => exact Nat.zero_le _
    | some z => exact h1 z (List.mem_of_getElem? q)
  rw [List.length_map] at hs
  exact hs
theorem rowsAt_last {ps : List Addr} {rows : List (List Str)} {H : Hp} (r : RowsAt ps rows H) (h : 1 ≤ rows.length) : ∃ q, atI (ps.map V.ref) (-1) = some (.ref q) ∧ H q = some (.tup (sV (rows.getLast?.getD []))) := by
  have hl := r.len
  have l1 : ps.length - 1 < ps.length := by omega
  refine ⟨ps[ps.length - 1], ?_, ?_⟩
  · have e : ixN (ps.map V.ref).length (-1) = some (ps.length - 1) := by
      unfold ixN
      rw [List.length_map]
      simp
      omega
    unfold atI
    rw [e]
    show (ps.map V.ref)[ps.length - 1]? = _
    rw [List.getElem?_map, List.getElem?_eq_getElem l1]
    rfl
  · refine r.row (ps.length - 1) _ _ (List.getElem?_eq_getElem l1) ?_
    rw [List.getLast?_eq_getElem?, hl, List.getElem?_eq_getElem (by omega)]
    rfl
theorem atZ_lastT {xs : List Str} (h : 1 ≤ xs.length) : atI (sV xs) (-1) = some (.str (xs.getLast?.getD "")) := by
  have e : ixN (sV xs).length (-1) = some (xs.length - 1) := by
    unfold ixN sV
    rw [List.length_map]
    simp
    omega
  unfold atI
  rw [e]
  show (sV xs)[xs.length - 1]? = _
  unfold sV
  rw [List.getElem?_map, List.getLast?_eq_getElem?, List.getElem?_eq_getElem (by omega)]
  rfl
section
variable {P : Program} {w : World} {K : PySem.W.Frag} {mg : Str → Option Value} {base : Heap} {cs : List (Addr × Addr)} {B : Addr}
/-! ### page -/
def spTPage (cs : List (Addr × Addr)) (B : Addr) : Sp := fun vs H Q _ => ∃ (tb : Addr) (a : TA) (S : TSt), vs = [.ref tb] ∧ Tabs cs H ∧ TabD B H tb a S ∧ TOk S ∧
  ∀ (r : Addr) (ps : List Addr) (H' : Hp), Ex cs H H' → H r = none → H' r = some (.lst (ps.map V.ref)) → RowsAt ps (rowsT (textR S.signs (hereR S))) H' → Q (.ref r) H'
theorem sc_tpage : FnScope ["self"] ["self"] (defScope (mth nTable 8)) := ⟨rfl, rfl, rfl, by decide +kernel, rfl, by decide +kernel, by decide +kernel⟩
theorem ok_tpage {f g1 g2 g3 : Addr} {fd fd1 fd2 fd3 : FuncData} (X : TabC K B) (F : Fun K "page" "Table.page" (mth nTable 8) f fd)
    (M1 : Meth K B "present" g1) (G1 : FnOk P w K mg base CX0 2 g1 fd1 ["self"] (spPresent B)) (b1 : Binds K fd1 ["self"] [])
    (G2 : FnOk P w K mg base CX0 1 g2 fd2 ["signs", "marks"] (spTextOf K)) (k2 : PySem.W.keepIn K (.ref g2) = true) (b2 : Binds K fd2 ["signs", "marks"] []) (m2 : mg "text_of" = some (.ref g2))
    (G3 : FnOk P w K mg base CX0 1 g3 fd3 ["text"] (spRowsOf cs)) (k3 : PySem.W.keepIn K (.ref g3) = true) (b3 : Binds K fd3 ["text"] []) (m3 : mg "rows_of" = some (.ref g3)) : FnOk P w K mg base CX0 3 f fd ["self"] (spTPage cs B) := by
  refine F.ok sc_tpage (fun vs H Q E h => ?_) (fun cdv A outer s H vs Q E hr h => ?_)
  · obtain ⟨tb, a, S, rfl, _⟩ := h
    rfl
  · obtain ⟨tb, a, S, rfl, hT, hD, hO, k⟩ := h
    have r1 : Room 1 _ := hr.mono (by decide)
    refine ⟨_, pss_one (ps_ret (pe_call G3 r1 (by rfl) m3 k3 b3 .nil pass0 (pa_cons (pe_call G2 r1 (by rfl) m2 k2 b2 .nil pass0 (pa_cons (pe_fld (pv 0) rfl) (pa_cons (pe_meth0 (pv 0) X.cls M1 G1 hr b1 .nil pass0) pa_nil))) pa_nil))), ?_⟩
    refine ⟨_, rfl, tb, B, a.dx, _, _, rfl, hD.ob, X.cls, X.nSigns, rfl, _, rfl, tb, a.dx, _, rfl, hD.ob, rfl, tb, a, S, rfl, hD, hO, fun D nD => ?_⟩
    have x1 := same_new (o := .lst (nV (hereR S))) nD
    have hl := hereR_len S
    have ho := hO.ol
    refine ⟨a.sg, D, S.signs, hereR S, rfl, SqL.of (x1 _ _ hD.sg), SqL.of upd_same, hereR_lt hO, by omega, hO.one, fun H2 x2 => ?_⟩
    have e2 := same_ex (same_trans x1 x2) hT
    have tl := textR_len (marks := hereR S) hO.one
    exact ⟨_, rfl, e2.tab, by omega, fun r ps H3 x3 nr hr3 hps => k r ps H3 (e2.trans x3) (e2.old _ nr) hr3 hps⟩
/-! ### at -/
def spTAt (cs : List (Addr × Addr)) (B : Addr) : Sp := fun vs H Q _ => ∃ (tb : Addr) (h : Nat) (a : TA) (S : TSt), vs = [.ref tb, .int (h : Nat)] ∧ Tabs cs H ∧ TabD B H tb a S ∧ TOk S ∧ h < S.spots.length ∧
  ∀ (t : Addr) (H' : Hp), Ex cs H H' → H' t = some (.tup [.int ((atR S h).1 : Nat), .int ((atR S h).2.1 : Nat), .int ((atR S h).2.2 : Nat)]) → Q (.ref t) H'
abbrev nmAt : List Str := ["self", "hand", "present", "rows"]
theorem sc_tat : FnScope nmAt ["self", "hand"] (defScope (mth nTable 7)) := ⟨rfl, rfl, rfl, by decide +kernel, rfl, by decide +kernel, by decide +kernel⟩
theorem rowsT_1 (z : Str) : 1 ≤ (rowsT z).length ∧ ∀ r ∈ rowsT z, 1 ≤ r.length := by
  have ne : ∀ (z y : Str), cl y ≠ [] → Builtin.Str.strKind y = 1 → 1 ≤ (Txt.split z y).length := fun z y h0 h1 => by
    have e := split_clL z y h0 h1
    have : (TL.spl (cl y) 0 [] (cl z)).length = (Txt.split z y).length := by rw [← e, List.length_map]
    rw [← this]
    have g : ∀ (l acc : List Nat) (k : Nat), 1 ≤ (TL.spl (cl y) k acc l).length := by
      intro l
      induction l with
      | nil => intro acc k; cases k <;> simp [TL.spl]
      | cons c r ih =>
        intro acc k
        cases k with
        | zero =>
          unfold TL.spl
          split
          · simp
          · exact ih _ _
        | succ k => unfold TL.spl; exact ih _ _
    exact g _ _ _
  refine ⟨?_, fun r hr => ?_⟩
  · unfold rowsT
    rw [List.length_map]
    exact ne z lineS (by rw [cl_lineS]; decide) kind_line
  · unfold rowsT at hr
    obtain ⟨l, _, rfl⟩ := List.mem_map.mp hr
    exact ne l tabS (by rw [cl_tabS]; decide) kind_tab
theorem rowsT_piece {z : Str} {r : List Str} {x : Str} (hr : r ∈ rowsT z) (hx : x ∈ r) : x.length ≤ z.length := by
  unfold rowsT at hr
  obtain ⟨l, hl, rfl⟩ := List.mem_map.mp hr
  have h1 := split_pieceL (by rw [cl_lineS]; decide) kind_line hl
  have h2 := split_pieceL (by rw [cl_tabS]; decide) kind_tab hx
  omega
theorem ok_tat {f g0 g1 g2 g3 : Addr} {fd fd0 fd1 fd2 fd3 : FuncData} (T : Txt mg) (X : TabC K B) (F : Fun K "at" "Table.at" (mth nTable 7) f fd)
    (M0 : Meth K B "check_hand" g0) (G0 : FnOk P w K mg base CX0 2 g0 fd0 ["self", "hand"] (spHand B)) (b0 : Binds K fd0 ["self", "hand"] [])
    (M1 : Meth K B "present" g1) (G1 : FnOk P w K mg base CX0 2 g1 fd1 ["self"] (spPresent B)) (b1 : Binds K fd1 ["self"] [])
    (G2 : FnOk P w K mg base CX0 1 g2 fd2 ["signs", "marks"] (spTextOf K)) (k2 : PySem.W.keepIn K (.ref g2) = true) (b2 : Binds K fd2 ["signs", "marks"] []) (m2 : mg "text_of" = some (.ref g2))
    (G3 : FnOk P w K mg base CX0 1 g3 fd3 ["text"] (spRowsOf cs)) (k3 : PySem.W.keepIn K (.ref g3) = true) (b3 : Binds K fd3 ["text"] []) (m3 : mg "rows_of" = some (.ref g3)) : FnOk P w K mg base CX0 3 f fd ["self", "hand"] (spTAt cs B) := by
  refine F.ok sc_tat (fun vs H Q E h => ?_) (fun cdv A outer s H vs Q E hr h => ?_)
  · obtain ⟨tb, h, a, S, rfl, _⟩ := h
    rfl
  · obtain ⟨tb, h, a, S, rfl, hT, hD, hO, hh, k⟩ := h
    have nd := sc_tat.nd
    have r1 : Room 1 _ := hr.mono (by decide)
    refine ⟨_, pss_cons (ps_expr (pe_meth (pv 0) X.cls M0 G0 hr b0 .nil pass0 (pa_cons (pv 1) pa_nil)))
      (pss_cons (ps_set (i := 2) nd rfl (.inl rfl) (pe_meth0 (pv 0) X.cls M1 G1 hr b1 .nil pass0))
      (pss_cons (ps_set (i := 3) nd rfl (.inl rfl) (pe_call G3 r1 (by rfl) m3 k3 b3 .nil pass0 (pa_cons (pe_call G2 r1 (by rfl) m2 k2 b2 .nil pass0 (pa_cons (pe_fld (pv 0) rfl)
        (pa_cons (pe_slice sl_list (pv 2) po_none (po_some (pe_bm PySem.F.plainAttrs_list PySem.F.slot_list_index PySem.F.type_list_index mt_index (pv 2) (pa_cons (pe_ix ix_list (pe_fld (pv 0) rfl) (pv 1) (fun _ _ => rfl)) pa_nil)))) pa_nil))) pa_nil)))
      (pss_one (ps_ret (pe_tup (pa_cons (pe_op op_sub (pe_callB call_len_seq (by rfl) T.len PySem.boot_len (pa_cons (pv 3) pa_nil)) pe_int)
        (pa_cons (pe_op op_sub (pe_callB call_len_seq (by rfl) T.len PySem.boot_len (pa_cons (pe_ix ix_list (pv 3) (pe_un un_neg pe_int) (fun _ _ => rfl)) pa_nil)) pe_int)
        (pa_cons (pe_callB call_len_str (by rfl) T.len PySem.boot_len (pa_cons (pe_ix ix_tup (pe_ix ix_list (pv 3) (pe_un un_neg pe_int) (fun _ _ => rfl)) (pe_un un_neg pe_int) (fun _ _ => rfl)) pa_nil)) pa_nil)))))))), ?_⟩
    refine ⟨_, rfl, tb, a.dx, _, rfl, hD.ob, rfl, _, rfl, tb, h, a, S, rfl, hD, hh, _, rfl, tb, a.dx, _, rfl, hD.ob, rfl, tb, a, S, rfl, hD, hO, fun D nD => ?_⟩
    have x1 := same_new (o := .lst (nV (hereR S))) nD
    have hD1 := hD.same x1
    have h1 : upd H D (.lst (nV (hereR S))) D = some (.lst (nV (hereR S))) := upd_same
    generalize upd H D (.lst (nV (hereR S))) = H1 at x1 hD1 h1 ⊢
    have hl := hereR_len S
    have ho := hO.ol
    have hs := getD_spot hh
    obtain ⟨g1', g2', g3'⟩ := idx_nat (hO.sp _ (List.mem_of_getElem? hs))
    refine ⟨_, rfl, tb, B, a.dx, _, _, rfl, hD1.ob, X.cls, X.nSigns, rfl, _, rfl, _, rfl, .inl ⟨rfl, _, SqL.of h1⟩, _, rfl, tb, B, a.dx, _, _, rfl, hD1.ob, X.cls, X.nSpots, rfl, _, rfl, a.sp, _, _, _, rfl, rfl, SqL.of hD1.sp, atI_nat (nV_get hs), D, nV (hereR S), .int (S.spots.getD h 0 : Nat), (hereR S).idxOf (S.spots.getD h 0), .int (S.spots.getD h 0 : Nat), rfl, rfl, SqL.of h1, rfl, ints_flat _, nV_get g1', by simp [eqV], ints_no g3', ?_⟩
    refine ⟨_, rfl, D, _, rfl, SqL.of h1, fun p np => ?_⟩
    rw [cut_toV]
    have e1 : (nV (hereR S)).take ((hereR S).idxOf (S.spots.getD h 0)) = nV ((hereR S).take ((hereR S).idxOf (S.spots.getD h 0))) := by unfold nV; rw [List.map_take]
    rw [e1]
    have hR : atR S h = ((rowsT (textR S.signs ((hereR S).take ((hereR S).idxOf (S.spots.getD h 0))))).length - 1, ((rowsT (textR S.signs ((hereR S).take ((hereR S).idxOf (S.spots.getD h 0))))).getLast?.getD []).length - 1, (((rowsT (textR S.signs ((hereR S).take ((hereR S).idxOf (S.spots.getD h 0))))).getLast?.getD []).getLast?.getD "").length) := rfl
    have lm : ∀ m ∈ (hereR S).take ((hereR S).idxOf (S.spots.getD h 0)), m < S.signs.length := fun m hm => hereR_lt hO m (List.mem_of_mem_take hm)
    have ll : ((hereR S).take ((hereR S).idxOf (S.spots.getD h 0))).length ≤ 9000 := by rw [List.length_take]; omega
    generalize (hereR S).take ((hereR S).idxOf (S.spots.getD h 0)) = ms at hR lm ll ⊢
    have x2 := same_new (o := .lst (nV ms)) np
    refine ⟨a.sg, p, S.signs, ms, rfl, SqL.of (x2 _ _ hD1.sg), SqL.of upd_same, lm, by omega, hO.one, fun H3 x3 => ?_⟩
    have e3 := same_ex (same_trans x1 (same_trans x2 x3)) hT
    have tl := textR_len (marks := ms) hO.one
    refine ⟨_, rfl, e3.tab, by omega, fun r ps H4 x4 nr hr4 hps => ?_⟩
    obtain ⟨r1', r2'⟩ := rowsT_1 (textR S.signs ms)
    obtain ⟨q, hq1, hq2⟩ := rowsAt_last hps r1'
    have hlast : (rowsT (textR S.signs ms)).getLast?.getD [] ∈ rowsT (textR S.signs ms) := by
      cases e : (rowsT (textR S.signs ms)).getLast? with
      | none => rw [List.getLast?_eq_none_iff.mp e] at r1'; simp at r1'
      | some x => exact List.mem_of_getLast? e
    have r3' := r2' _ hlast
    have r4' : ((((rowsT (textR S.signs ms)).getLast?.getD [])).getLast?.getD "").length ≤ 9000 := by
      cases e : ((rowsT (textR S.signs ms)).getLast?.getD []).getLast? with
      | none => exact Nat.zero_le _
      | some x =>
        have := rowsT_piece hlast (List.mem_of_getLast? e)
        show x.length ≤ 9000
        omega
    have hk := k
    rw [hR] at hk
    generalize rowsT (textR S.signs ms) = R at hps r1' hk hq2 r3' r4'
    have szl : (9000 : Nat) < sizeLine := by decide
    have pl := hps.len
    refine ⟨_, rfl, r, _, rfl, .inl (SqL.of hr4), _, _, rfl, rfl, _, rfl, 1, rfl, r, _, _, _, rfl, rfl, SqL.of hr4, hq1, q, _, rfl, .inr (SqT.of hq2), _, _, rfl, rfl, _, rfl, 1, rfl, r, _, _, _, rfl, rfl, SqL.of hr4, hq1, 1, rfl, q, _, _, _, rfl, rfl, SqT.of hq2, atZ_lastT r3', _, rfl, ?_, by show 3 ≤ sizeLine; decide, fun t nt => ?_⟩
    · omega
    · refine hk t _ (e3.trans (x4.trans (Ex.laid x4.tab nt))) ?_
      rw [upd_same]
      have f1 : (((ps.map V.ref).length : Nat) : Int) - 1 = ((R.length - 1 : Nat) : Int) := by rw [List.length_map]; omega
      have f2 : (((sV (R.getLast?.getD [])).length : Nat) : Int) - 1 = (((R.getLast?.getD []).length - 1 : Nat) : Int) := by unfold sV; rw [List.length_map]; omega
      dsimp only
      rw [f1, f2]
/-! ### told -/
def spTTold (B : Addr) : Sp := fun vs H Q _ => ∃ (tb : Addr) (a : TA) (S : TSt), vs = [.ref tb] ∧ TabD B H tb a S ∧ TOk S ∧ ∀ (D : Addr) (H' : Hp), TupL H D (S.deeds.map toldV) H' → Q (.ref D) H'
abbrev nmTold2 : List Str := ["self", "hand", "sign", "mark", "stands"]
theorem sc_ttold : FnScope nmTold2 ["self"] (defScope (mth nTable 10)) := ⟨rfl, rfl, rfl, by decide +kernel, rfl, by decide +kernel, by decide +kernel⟩
theorem ok_ttold {f : Addr} {fd : FuncData} (X : TabC K B) (F : Fun K "told" "Table.told" (mth nTable 10) f fd) : FnOk P w K mg base CX0 1 f fd ["self"] (spTTold B) := by
  refine F.ok sc_ttold (fun vs H Q E h => ?_) (fun cdv A outer s H vs Q E hr h => ?_)
  · obtain ⟨tb, a, S, rfl, _⟩ := h
    rfl
  · obtain ⟨tb, a, S, rfl, hD, hO, k⟩ := h
    have nd := sc_ttold.nd
    have szl : (9000 : Nat) < sizeLine := by decide
    refine ⟨_, pss_one (ps_ret (pe_lc (own := [("hand", 1), ("sign", 2), ("mark", 3), ("stands", 4)]) (g := gTup K 4 (gCons (gName 1) (gCons (gName 2) (gCons (gName 3) (gCons (gName 4) gNil))))) (tt := tYes) rfl nd (pi_list (pe_fld (pv 0) rfl)) (blkOk_by (own := [("hand", 1), ("sign", 2), ("mark", 3), ("stands", 4)]) (N := nmTold2) (sc := defScope (mth nTable 10)) (by decide +kernel))
      (fun _ _ _ _ _ => pg_tup rfl (pgs_cons (pg_name (i := 1) nd rfl (.inl rfl) (.inr rfl)) (pgs_cons (pg_name (i := 2) nd rfl (.inl rfl) (.inr rfl)) (pgs_cons (pg_name (i := 3) nd rfl (.inl rfl) (.inr rfl)) (pgs_cons (pg_name (i := 4) nd rfl (.inl rfl) (.inr rfl)) pgs_nil))))) (fun _ _ _ _ _ => pts_nil)
      (fun _ _ _ _ _ => pe_tup (pa_cons (pv 1) (pa_cons (pv 2) (pa_cons (pv 4) pa_nil)))))), ?_⟩
    refine ⟨_, rfl, tb, B, a.dx, _, _, rfl, hD.ob, X.cls, X.nDeeds, rfl, a.dl, rfl, ⟨_, SqL.of hD.de.lst⟩, fun D nD => lc_list (xs := a.da.map V.ref) (fun i H' => TupL H D ((S.deeds.take i).map toldV) H') (TupL.start nD) (fun i H' _ o => SqL.of (o.sm _ _ hD.de.lst)) ?_ ?_⟩
    · rintro i x H1 hx o
      obtain ⟨t, ht, rfl⟩ := get_map hx
      obtain ⟨d, hd⟩ := getP (xs := S.deeds) (i := i) (by rw [← hD.de.len]; exact (List.getElem?_eq_some_iff.mp ht).1)
      have h3 := o.sm _ _ (hD.de.at_ i t d ht hd)
      have li := (List.getElem?_eq_some_iff.mp hd).1
      have dn := hO.dn
      refine ⟨t, _, rfl, .inl (.inl h3), rfl, _, _, rfl, _, _, rfl, _, _, rfl, _, _, rfl, rfl, rfl, _, rfl, _, rfl, _, rfl, by show 3 ≤ sizeLine; decide, fun p np => ?_⟩
      have o4 := o.grow (same_new (o := .tup [.int (d.1 : Nat), .str d.2.1, .bl d.2.2.2]) np)
      obtain ⟨acc, q1, q2, q3⟩ := o4.more (t := p) (v := toldV d) upd_same
      refine ⟨acc, q1, by rw [q2, List.length_map, List.length_take]; omega, ?_⟩
      rw [List.take_add_one, hd, Option.toList_some, List.map_append]
      exact q3
    · rintro H1 o
      have e : S.deeds.take (a.da.map V.ref).length = S.deeds := List.take_of_length_le (by rw [List.length_map, hD.de.len]; exact Nat.le_refl _)
      rw [e] at o
      exact k D H1 o
end
end TG

namespace TG
open PySem PySem.Spec PyProof.Rows L2 Gx
/-! ### settle -/
def settleR (S : TSt) (signs : List Str) (order : List Nat) (deeds : List Deed) : TSt :=
  { S with signs := signs, order := order, deeds := deeds, there := thereR signs.length deeds, spots := S.spots.map (firstR order (thereR signs.length deeds)) }
structure SetOk (S : TSt) (signs : List Str) (order : List Nat) (deeds : List Deed) : Prop where
  one : ∀ z ∈ signs, z.length ≤ 1
  many : signs.length ≤ 9000
  ord : ∀ m ∈ order, m < signs.length
  ol : order.length ≤ 9000
  dm : ∀ d ∈ deeds, d.2.2.1 < signs.length
  dn : deeds.length ≤ 9000
  sp : ∀ s ∈ S.spots, s ∈ order ∧ ∃ m ∈ order.drop (order.idxOf s), (thereR signs.length deeds).getD m false = true
  pg : PgOk (rowsT (textR signs (thoseR order (thereR signs.length deeds))))
  h4 : S.spots.length ≤ 4
theorem firstR_mem {order : List Nat} {there : List Bool} {s : Nat} (h : ∃ m ∈ order.drop (order.idxOf s), there.getD m false = true) : firstR order there s ∈ thoseR order there := by
  obtain ⟨m, hm, ht⟩ := h
  unfold firstR
  cases e : (order.drop (order.idxOf s)).find? (fun m => there.getD m false) with
  | none => exact absurd ht (by have := List.find?_eq_none.mp e m hm; simpa using this)
  | some x =>
    exact List.mem_filter.mpr ⟨List.mem_of_mem_drop (List.mem_of_find?_eq_some e), List.find?_some (p := fun m => there.getD m false) e⟩
theorem SetOk.tok {S : TSt} {signs : List Str} {order : List Nat} {deeds : List Deed} (h : SetOk S signs order deeds) (o : TOk S) (hl : S.deeds.length ≤ deeds.length) : TOk (settleR S signs order deeds) :=
  ⟨h.one, h.many, h.ord, h.ol, thereR_len _ _, h.dm, h.dn, fun s hs => by
    obtain ⟨s0, h0, rfl⟩ := List.mem_map.mp hs
    exact firstR_mem (h.sp s0 h0).2, by show (S.spots.map _).length = _; rw [List.length_map]; exact o.hn, by show (S.spots.map _).length ≤ 4; rw [List.length_map]; exact o.h4, fun l hl2 => ⟨(o.un l hl2).1, fun n hn => Nat.lt_of_lt_of_le ((o.un l hl2).2 n hn) hl⟩⟩
section
variable {P : Program} {w : World} {K : PySem.W.Frag} {mg : Str → Option Value} {base : Heap} {cs : List (Addr × Addr)} {B : Addr}
abbrev setA (a : TA) (sg od th dl sp : Addr) (da : List Addr) : TA := { a with sg := sg, od := od, th := th, dl := dl, sp := sp, da := da }
theorem fs4 (a : TA) (sg od th dl : Addr) : putF "there" (.ref th) (putF "deeds" (.ref dl) (putF "order" (.ref od) (putF "signs" (.ref sg) a.fs))) = TA.fs { a with sg := sg, od := od, dl := dl, th := th } := by
  simp only [TA.fs, putF]
  rfl
theorem fs5 (a : TA) (sp : Addr) : putF "spots" (.ref sp) a.fs = TA.fs { a with sp := sp } := by
  simp only [TA.fs, putF]
  rfl
def spSettle (cs : List (Addr × Addr)) (B : Addr) : Sp := fun vs H Q _ => ∃ (tb sg od dl : Addr) (a : TA) (S : TSt) (signs : List Str) (order : List Nat) (deeds : List Deed) (da : List Addr), vs = [.ref tb, .ref sg, .ref od, .ref dl] ∧ Tabs cs H ∧ TabD B H tb a S ∧
  H sg = some (.lst (sV signs)) ∧ H od = some (.lst (nV order)) ∧ DeedsAt H dl da deeds ∧ (∀ c ∈ a.ud :: a.ua, c ≠ sg ∧ c ≠ od ∧ c ≠ dl) ∧ SetOk S signs order deeds ∧
  ∀ (th sp : Addr) (H' : Hp), H th = none → H sp = none → (∀ c o, H c = some o → NT cs c o → c ≠ tb → H' c = some o) → Tabs cs H' → (∀ b, H' b = none → H b = none) → TabD B H' tb (setA a sg od th dl sp da) (settleR S signs order deeds) → Q .non H'
abbrev nmSet : List Str := ["self", "signs", "order", "deeds", "there", "rows", "spot"]
theorem sc_settle : FnScope nmSet ["self", "signs", "order", "deeds"] (defScope (mth nTable 16)) := ⟨rfl, rfl, rfl, by decide +kernel, rfl, by decide +kernel, by decide +kernel⟩
theorem pageAt_of {r : Addr} {ps : List Addr} {rows : List (List Str)} {H : Hp} (h : H r = some (.lst (ps.map V.ref))) (p : RowsAt ps rows H) : PageAt K H r ps rows := ⟨SqL.of h, p.len, fun i q z h1 h2 => SqT.of (p.row i q z h1 h2)⟩
theorem ok_settle {f g1 g2 g3 g4 g5 g6 : Addr} {fd fd1 fd2 fd3 fd4 fd5 fd6 : FuncData} (T : Txt mg) (X : TabC K B) (F : Fun K "settle" "Table.settle" (mth nTable 16) f fd)
    (G1 : FnOk P w K mg base CX0 1 g1 fd1 ["many", "deeds"] (spMarks K)) (k1 : PySem.W.keepIn K (.ref g1) = true) (b1 : Binds K fd1 ["many", "deeds"] []) (m1 : mg "marks_there" = some (.ref g1))
    (G2 : FnOk P w K mg base CX0 1 g2 fd2 ["order", "there"] (spThose K)) (k2 : PySem.W.keepIn K (.ref g2) = true) (b2 : Binds K fd2 ["order", "there"] []) (m2 : mg "those_there" = some (.ref g2))
    (G3 : FnOk P w K mg base CX0 1 g3 fd3 ["signs", "marks"] (spTextOf K)) (k3 : PySem.W.keepIn K (.ref g3) = true) (b3 : Binds K fd3 ["signs", "marks"] []) (m3 : mg "text_of" = some (.ref g3))
    (G4 : FnOk P w K mg base CX0 1 g4 fd4 ["text"] (spRowsOf cs)) (k4 : PySem.W.keepIn K (.ref g4) = true) (b4 : Binds K fd4 ["text"] []) (m4 : mg "rows_of" = some (.ref g4))
    (G5 : FnOk P w K mg base CX0 10 g5 fd5 ["rows"] (spCheck K cs)) (k5 : PySem.W.keepIn K (.ref g5) = true) (b5 : Binds K fd5 ["rows"] []) (m5 : mg "first_misfit" = some (.ref g5))
    (G6 : FnOk P w K mg base CX0 1 g6 fd6 ["order", "there", "spot"] (spFirst K)) (k6 : PySem.W.keepIn K (.ref g6) = true) (b6 : Binds K fd6 ["order", "there", "spot"] []) (m6 : mg "first_there" = some (.ref g6)) :
    FnOk P w K mg base CX0 11 f fd ["self", "signs", "order", "deeds"] (spSettle cs B) := by
  refine F.ok sc_settle (fun vs H Q E h => ?_) (fun cdv A outer s H vs Q E hr h => ?_)
  · obtain ⟨tb, sg, od, dl, a, S, signs, order, deeds, da, rfl, _⟩ := h
    rfl
  · obtain ⟨tb, sg, od, dl, a, S, signs, order, deeds, da, rfl, hT, hD, hsg, hod, hdl, hn, hO, k⟩ := h
    have nd := sc_settle.nd
    have r1 : Room 1 _ := hr.mono (by decide)
    refine ⟨_, pss_cons (ps_set (i := 4) nd rfl (.inr rfl) (pe_call G1 r1 (by rfl) m1 k1 b1 .nil pass0 (pa_cons (pe_callB call_len_seq (by rfl) T.len PySem.boot_len (pa_cons (pv 1) pa_nil)) (pa_cons (pv 3) pa_nil))))
      (pss_cons (ps_set (i := 5) nd rfl (.inl rfl) (pe_call G4 r1 (by rfl) m4 k4 b4 .nil pass0 (pa_cons (pe_call G3 r1 (by rfl) m3 k3 b3 .nil pass0 (pa_cons (pv 1) (pa_cons (pe_call G2 r1 (by rfl) m2 k2 b2 .nil pass0 (pa_cons (pv 2) (pa_cons (pv 4) pa_nil))) pa_nil))) pa_nil)))
      (pss_cons (ps_if (pt_cmpR op_notN (pe_call G5 hr (by rfl) m5 k5 b5 .nil pass0 (pa_cons (pv 5) pa_nil)) pe_non (nomark _)) (pss_one ps_never) pss_nil)
      (pss_cons (ps_fld (pv 0) (pv 1) rfl) (pss_cons (ps_fld (pv 0) (pv 2) rfl) (pss_cons (ps_fld (pv 0) (pv 3) rfl) (pss_cons (ps_fld (pv 0) (pv 4) rfl)
      (pss_one (ps_fld (pv 0) (pe_lc (own := [("spot", 6)]) (g := gName 6) (tt := tYes) rfl nd (pi_list (pe_fld (pv 0) rfl)) (blkOk_by (own := [("spot", 6)]) (N := nmSet) (sc := defScope (mth nTable 16)) (by decide +kernel))
        (fun _ _ _ _ _ => pg_name (i := 6) nd rfl (Or.inl rfl)) (fun _ _ _ _ _ => pts_nil) (fun _ _ _ _ _ => pe_call G6 r1 (by rfl) m6 k6 b6 .nil pass0 (pa_cons (pv 2) (pa_cons (pv 4) (pa_cons (pv 6) pa_nil))))) rfl)))))))), ?_⟩
    have hm := hO.many
    have hol := hO.ol
    refine ⟨_, rfl, sg, _, rfl, .inl (SqL.of hsg), _, rfl, signs.length, dl, da, deeds, by simp [sV], hdl, hO.dm, by omega, fun th H1 x1 nth hth => ?_⟩
    have tln := thereR_len signs.length deeds
    have e1 := same_ex x1 hT
    refine ⟨_, rfl, _, rfl, _, rfl, od, th, order, _, rfl, SqL.of (x1 _ _ hod), SqL.of hth, fun m hm => by rw [tln]; exact hO.ord m hm, by omega, fun D nD => ?_⟩
    have x2 := same_new (o := .lst (nV (thoseR order (thereR signs.length deeds)))) nD
    have hl : (thoseR order (thereR signs.length deeds)).length ≤ order.length := List.length_filter_le _ _
    refine ⟨sg, D, signs, _, rfl, SqL.of (x2 _ _ (x1 _ _ hsg)), SqL.of upd_same, fun m hm => hO.ord m (List.mem_filter.mp hm).1, by omega, hO.one, fun H2 x3 => ?_⟩
    have e2 := e1.trans (same_ex (same_trans x2 x3) e1.tab)
    have hth2 := x3 _ _ (x2 _ _ hth)
    have tl := textR_len (marks := thoseR order (thereR signs.length deeds)) hO.one
    refine ⟨_, rfl, e2.tab, by omega, fun r ps H3 x4 nr hr3 hps => ⟨_, rfl, r, ps, _, rfl, x4.tab, pageAt_of hr3 hps, hO.pg, fun H4 x5 => ?_⟩⟩
    have e4 := e2.trans (x4.trans x5)
    have hth4 := (x4.trans x5).lst hth2
    have hD4 := hD.gw e4.ext
    have hsg4 := e4.lst hsg
    have hod4 := e4.lst hod
    have hdl4 : DeedsAt H4 dl da deeds := ⟨e4.lst hdl.lst, hdl.len, fun i t d q1 q2 => e4.tup (hdl.at_ i t d q1 q2)⟩
    clear e1 e2 x1 x2 x3 x4 x5 hth hth2 nD
    refine ⟨rfl, false, rfl, iteF ?_⟩
    refine ⟨_, rfl, _, rfl, tb, B, a.dx, _, rfl, hD4.ob, X.cls, X.nSigns, by show 7 < 1000; decide, ?_⟩
    refine ⟨_, rfl, _, rfl, tb, B, a.dx, _, rfl, upd_same, X.cls, X.nOrder, by show 7 < 1000; decide, ?_⟩
    rw [upd_upd]
    refine ⟨_, rfl, _, rfl, tb, B, a.dx, _, rfl, upd_same, X.cls, X.nDeeds, by show 7 < 1000; decide, ?_⟩
    rw [upd_upd]
    refine ⟨_, rfl, _, rfl, tb, B, a.dx, _, rfl, upd_same, X.cls, X.nThere, by show 7 < 1000; decide, ?_⟩
    rw [upd_upd]
    rw [fs4]
    have nt : ∀ {c : Addr} {xs : List V}, H4 c = some (.lst xs) → c ≠ tb := fun h e => by rw [e, hD4.ob] at h; cases h
    have hb5 : upd H4 tb (.ins B a.dx { a with sg := sg, od := od, dl := dl, th := th }.fs) tb = some (.ins B a.dx { a with sg := sg, od := od, dl := dl, th := th }.fs) := upd_same
    have k5' : ∀ c o, H4 c = some o → c ≠ tb → upd H4 tb (.ins B a.dx { a with sg := sg, od := od, dl := dl, th := th }.fs) c = some o := fun c o h n => by rw [upd_ne n]; exact h
    have n5 : ∀ b, upd H4 tb (.ins B a.dx { a with sg := sg, od := od, dl := dl, th := th }.fs) b = none → H4 b = none := fun b hb => upd_old hD4.ob hb
    generalize upd H4 tb (.ins B a.dx { a with sg := sg, od := od, dl := dl, th := th }.fs) = H5 at hb5 k5' n5 ⊢
    refine ⟨_, rfl, tb, B, a.dx, _, _, rfl, hb5, X.cls, X.nSpots, rfl, a.sp, rfl, ⟨_, SqL.of (k5' _ _ hD4.sp (nt hD4.sp))⟩, fun L nL => ?_⟩
    have y5 : ∀ {o : HO}, Same H5 (upd H5 L o) := same_new nL
    refine lc_list (xs := nV S.spots) (fun i H' => H' = upd H5 L (.lst (nV ((S.spots.take i).map (firstR order (thereR signs.length deeds)))))) rfl (fun i H' _ x => by rw [x]; exact SqL.of (y5 _ _ (k5' _ _ hD4.sp (nt hD4.sp)))) ?_ ?_
    · rintro i x H' hx rfl
      obtain ⟨q, hq, rfl⟩ := get_map hx
      obtain ⟨q1, q2⟩ := hO.sp q (List.mem_of_getElem? hq)
      refine ⟨rfl, _, rfl, _, rfl, _, rfl, od, th, order, _, q, rfl, SqL.of (y5 _ _ (k5' _ _ hod4 (nt hod4))), SqL.of (y5 _ _ (k5' _ _ hth4 (nt hth4))), fun m hm => by rw [tln]; exact hO.ord m hm, by omega, q1, q2, _, upd_same, ?_, ?_⟩
      · have := hO.h4
        have szl : (9000 : Nat) < sizeLine := by decide
        rw [nV_len, List.length_map, List.length_take]
        omega
      · rw [upd_upd, List.take_add_one, hq]
        simp [nV]
    · rintro H' rfl
      have e : S.spots.take (nV S.spots).length = S.spots := List.take_of_length_le (by rw [nV_len]; exact Nat.le_refl _)
      rw [e]
      refine ⟨_, rfl, tb, B, a.dx, _, rfl, y5 _ _ hb5, X.cls, X.nSpots, by show 7 < 1000; decide, ?_⟩
      show Q .non (upd (upd H5 L (.lst (nV (S.spots.map (firstR order (thereR signs.length deeds)))))) tb (.ins B a.dx (setA a sg od th dl L da).fs))
      have nLt : L ≠ tb := fun e => by rw [e, hb5] at nL; cases nL
      have k6' : ∀ c o, H4 c = some o → c ≠ tb → upd (upd H5 L (.lst (nV (S.spots.map (firstR order (thereR signs.length deeds)))))) tb (.ins B a.dx (setA a sg od th dl L da).fs) c = some o := fun c o h n => by
        rw [upd_ne n]
        exact y5 _ _ (k5' c o h n)
      have nL4 := n5 L nL
      have ntT : ∀ {c : Addr} {xs : List V}, H4 c = some (.tup xs) → c ≠ tb := fun h e => by rw [e, hD4.ob] at h; cases h
      have nLc : ∀ {c : Addr} {o : HO}, H4 c = some o → L ≠ c := fun h e => by rw [← e, nL4] at h; cases h
      have nthc : ∀ {c : Addr} {o : HO}, H c = some o → c ≠ th := fun h e => by rw [e, nth] at h; cases h
      have nd0 := hD.nd
      rw [List.nodup_cons] at nd0
      have at4 : ∀ c ∈ a.ud :: a.ua, (∃ xs, H c = some (.lst xs)) ∧ ∃ o, H4 c = some o := fun c hc => by
        rcases List.mem_cons.mp hc with e | e
        · exact ⟨⟨_, e ▸ hD.ud⟩, _, e ▸ hD4.ud⟩
        · obtain ⟨i, hi⟩ := List.mem_iff_getElem?.mp e
          obtain ⟨l, hl⟩ := getP (xs := S.undone) (i := i) (by rw [← hD.ul]; exact (List.getElem?_eq_some_iff.mp hi).1)
          exact ⟨⟨_, hD.un i c l hi hl⟩, _, hD4.un i c l hi hl⟩
      refine k th L _ nth (e4.old _ nL4) (fun c o h n m => k6' c o (e4.any h n) m) ?_ (fun b hb => ?_) ?_
      · intro p hp
        obtain ⟨ps', h1, h2⟩ := e4.tab p hp
        exact ⟨ps', k6' _ _ h1 (fun z => by rw [z, hD4.ob] at h1; cases h1), h2⟩
      · refine e4.old b ?_
        cases e' : H4 b with
        | none => rfl
        | some u =>
          by_cases z : b = tb
          · rw [z, upd_same] at hb; cases hb
          · rw [k6' b u e' z] at hb; cases hb
      · refine ⟨upd_same, k6' _ _ hsg4 (nt hsg4), k6' _ _ hod4 (nt hod4), k6' _ _ hth4 (nt hth4), ⟨k6' _ _ hdl4.lst (nt hdl4.lst), hdl4.len, fun i t d q1 q2 => k6' _ _ (hdl4.at_ i t d q1 q2) (ntT (hdl4.at_ i t d q1 q2))⟩, by rw [upd_ne nLt, upd_same]; rfl, k6' _ _ hD4.ud (nt hD4.ud), hD4.ul, fun i u l q1 q2 => k6' _ _ (hD4.un i u l q1 q2) (nt (hD4.un i u l q1 q2)), List.nodup_cons.mpr ⟨fun h => ?_, nd0.2⟩, fun c hc => ?_⟩
        · obtain ⟨_, o, ho⟩ := at4 L h
          exact nLc ho rfl
        · rcases List.mem_cons.mp hc with e' | e'
          · rw [e']
            exact ⟨nLc hsg4, nLc hod4, nLc hth4, nLc hdl4.lst⟩
          · obtain ⟨h1, h2, h3⟩ := hn c e'
            obtain ⟨⟨xs, hx⟩, _⟩ := at4 c e'
            exact ⟨h1, h2, nthc hx, h3⟩
end
end TG

namespace TG
open PySem PySem.Spec PyProof.Rows L2 Gx
/-! ### undone -/
theorem nodup_inj {α : Type} {l : List α} (h : l.Nodup) {i j : Nat} {x : α} (h1 : l[i]? = some x) (h2 : l[j]? = some x) : i = j := by
  rw [List.nodup_iff_pairwise_ne, List.pairwise_iff_getElem] at h
  obtain ⟨a1, b1⟩ := List.getElem?_eq_some_iff.mp h1
  obtain ⟨a2, b2⟩ := List.getElem?_eq_some_iff.mp h2
  rcases Nat.lt_trichotomy i j with c | c | c
  · exact absurd (b1.trans b2.symm) (h i j a1 a2 c)
  · exact c
  · exact absurd (b2.trans b1.symm) (h j i a2 a1 c)
section
variable {B tb : Addr} {H H' : Hp} {a : TA} {S : TSt}
theorem TabD.nth (o : TabD B H tb a S) {h : Nat} (hh : h < S.undone.length) : ∃ u l, a.ua[h]? = some u ∧ S.undone[h]? = some l ∧ H u = some (.lst (nV l)) := by
  obtain ⟨u, hu⟩ := getP (xs := a.ua) (i := h) (by rw [o.ul]; exact hh)
  obtain ⟨l, hl⟩ := getP (xs := S.undone) (i := h) hh
  exact ⟨u, l, hu, hl, o.un h u l hu hl⟩
/-- one of the lists is written -/
theorem TabD.und (o : TabD B H tb a S) {h : Nat} {u : Addr} (hu : a.ua[h]? = some u) (l : List Nat) : TabD B (upd H u (.lst (nV l))) tb a { S with undone := S.undone.set h l } := by
  have mu : u ∈ a.ua := List.mem_of_getElem? hu
  have hlt := (List.getElem?_eq_some_iff.mp hu).1
  have nd := o.nd
  rw [List.nodup_cons, List.mem_cons, List.nodup_cons] at nd
  obtain ⟨d1, d2, d3, d4⟩ := o.dj u (by simp [mu])
  obtain ⟨l0, hl0⟩ := getP (xs := S.undone) (i := h) (by rw [← o.ul]; exact hlt)
  have h0 := o.un h u l0 hu hl0
  have f : ∀ {c : Addr} {x : HO}, c ≠ u → H c = some x → upd H u (.lst (nV l)) c = some x := fun n h => by rw [upd_ne n]; exact h
  have ft : ∀ {c : Addr} {us : List V}, H c = some (.tup us) → c ≠ u := fun h e => by rw [e, h0] at h; cases h
  refine ⟨f (fun e => by have := o.ob; rw [e, h0] at this; cases this) o.ob, f d1.symm o.sg, f d2.symm o.od, f d3.symm o.th, ⟨f d4.symm o.de.lst, o.de.len, fun i t dd h1 h2 => f (ft (o.de.at_ i t dd h1 h2)) (o.de.at_ i t dd h1 h2)⟩,
    f (fun e => nd.1 (.inr (e ▸ mu))) o.sp, f (fun e => nd.2.1 (e ▸ mu)) o.ud, by show _ = (S.undone.set h l).length; rw [List.length_set]; exact o.ul, fun i v m h1 h2 => ?_, o.nd, o.dj⟩
  have h2 : (S.undone.set h l)[i]? = some m := h2
  by_cases e : i = h
  · subst e
    rw [hu] at h1
    cases h1
    rw [List.getElem?_set_self (by rw [← o.ul]; exact hlt)] at h2
    cases h2
    exact upd_same
  · rw [List.getElem?_set_ne (fun z => e z.symm)] at h2
    refine f (fun z => ?_) (o.un i v m h1 h2)
    subst z
    exact e (nodup_inj nd.2.2 h1 hu)
/-- a new list is put in the place of one -/
theorem TabD.und0 (o : TabD B H tb a S) {h : Nat} {n : Addr} {l : List Nat} (hn : H n = some (.lst (nV l))) (hh : h < S.undone.length) (nn : n ≠ a.sp ∧ n ≠ a.ud ∧ n ∉ a.ua) (nm : n ≠ a.sg ∧ n ≠ a.od ∧ n ≠ a.th ∧ n ≠ a.dl) :
    TabD B (upd H a.ud (.lst ((a.ua.set h n).map V.ref))) tb { a with ua := a.ua.set h n } { S with undone := S.undone.set h l } := by
  have nd := o.nd
  rw [List.nodup_cons, List.mem_cons, List.nodup_cons] at nd
  obtain ⟨d1, d2, d3, d4⟩ := o.dj a.ud (by simp)
  have f : ∀ {c : Addr} {x : HO}, c ≠ a.ud → H c = some x → upd H a.ud (.lst ((a.ua.set h n).map V.ref)) c = some x := fun n h => by rw [upd_ne n]; exact h
  have ft : ∀ {c : Addr} {us : List V}, H c = some (.tup us) → c ≠ a.ud := fun h e => by rw [e, o.ud] at h; cases h
  have hlt : h < a.ua.length := by rw [o.ul]; exact hh
  have ms : ∀ c ∈ a.ua.set h n, c ∈ a.ua ∨ c = n := fun c hc => List.mem_or_eq_of_mem_set hc
  refine ⟨f (fun e => by have := o.ob; rw [e, o.ud] at this; cases this) o.ob, f d1.symm o.sg, f d2.symm o.od, f d3.symm o.th, ⟨f d4.symm o.de.lst, o.de.len, fun i t dd h1 h2 => f (ft (o.de.at_ i t dd h1 h2)) (o.de.at_ i t dd h1 h2)⟩,
    f (fun e => nd.1 (.inl e)) o.sp, upd_same, by show (a.ua.set h n).length = (S.undone.set h l).length; rw [List.length_set, List.length_set]; exact o.ul, fun i v m h1 h2 => ?_, ?_, fun c hc => ?_⟩
  · have h1 : (a.ua.set h n)[i]? = some v := h1
    have h2 : (S.undone.set h l)[i]? = some m := h2
    by_cases e : i = h
    · subst e
      rw [List.getElem?_set_self hlt] at h1
      rw [List.getElem?_set_self hh] at h2
      cases h1
      cases h2
      exact f nn.2.1 hn
    · rw [List.getElem?_set_ne (fun z => e z.symm)] at h1 h2
      exact f (fun z => nd.2.1 (z ▸ List.mem_of_getElem? h1)) (o.un i v m h1 h2)
  · show (a.sp :: a.ud :: a.ua.set h n).Nodup
    rw [List.nodup_cons, List.mem_cons, List.nodup_cons]
    refine ⟨fun z => ?_, fun z => ?_, ?_⟩
    · rcases z with z | z
      · exact nd.1 (.inl z)
      · rcases ms _ z with z | z
        · exact nd.1 (.inr z)
        · exact nn.1 z.symm
    · rcases ms _ z with z | z
      · exact nd.2.1 z
      · exact nn.2.1 z.symm
    · rw [List.nodup_iff_pairwise_ne, List.pairwise_iff_getElem]
      intro i j hi hj hij
      rw [List.length_set] at hi hj
      rw [List.getElem_set, List.getElem_set]
      have ne : ∀ k (hk : k < a.ua.length), a.ua[k] ≠ n := fun k hk z => nn.2.2 (z ▸ List.getElem_mem hk)
      by_cases c1 : h = i
      · rw [if_pos c1, if_neg (by omega)]
        exact (ne j hj).symm
      · rw [if_neg c1]
        by_cases c2 : h = j
        · rw [if_pos c2]
          exact ne i hi
        · rw [if_neg c2]
          exact fun z => by have := nodup_inj nd.2.2 (List.getElem?_eq_getElem hi) ((List.getElem?_eq_getElem hj).trans (congrArg some z.symm)); omega
  · have hc : c ∈ a.sp :: a.ud :: a.ua.set h n := hc
    rcases List.mem_cons.mp hc with z | z
    · exact o.dj c (by simp [z])
    · rcases List.mem_cons.mp z with z | z
      · exact o.dj c (by simp [z])
      · rcases ms _ z with z | z
        · exact o.dj c (by simp [z])
        · rw [z]; exact nm
end
/-! ### turn -/
def turnR (S : TSt) (n : Nat) (st : Bool) : List Deed := match S.deeds[n]? with
  | some d => S.deeds.set n (d.1, d.2.1, d.2.2.1, st)
  | none => S.deeds
theorem turnR_len (S : TSt) (n : Nat) (st : Bool) : (turnR S n st).length = S.deeds.length := by
  unfold turnR
  split
  · rw [List.length_set]
  · rfl
theorem setA_own {tb : Addr} {a : TA} {sg od th dl sp : Addr} {da : List Addr} {c : Addr} (h : ownT tb (setA a sg od th dl sp da) c) : ownT tb a c ∨ c = sg ∨ c = od ∨ c = th ∨ c = dl ∨ c = sp := by
  rcases h with e | e | e | e | e | e | e | e
  · exact .inl (.inl e)
  · exact .inr (.inl e)
  · exact .inr (.inr (.inl e))
  · exact .inr (.inr (.inr (.inl e)))
  · exact .inr (.inr (.inr (.inr (.inl e))))
  · exact .inr (.inr (.inr (.inr (.inr e))))
  · exact .inl (.inr (.inr (.inr (.inr (.inr (.inr (.inl e)))))))
  · exact .inl (.inr (.inr (.inr (.inr (.inr (.inr (.inr e)))))))
section
variable {P : Program} {w : World} {K : PySem.W.Frag} {mg : Str → Option Value} {base : Heap} {cs : List (Addr × Addr)} {B : Addr}
/-- what a table does, and its lists of the undone stay where they are -/
def Went2 (cs : List (Addr × Addr)) (B : Addr) (H : Hp) (tb : Addr) (a : TA) (S' : TSt) (Q : Hp → Prop) : Prop :=
  ∀ (a' : TA) (H' : Hp), a'.ud = a.ud → a'.ua = a.ua → (∀ c o, H c = some o → NT cs c o → c ≠ tb → H' c = some o) → (∀ c, ownT tb a' c → ownT tb a c ∨ H c = none) → Tabs cs H' → (∀ b, H' b = none → H b = none) → TabD B H' tb a' S' → Q H'
def spTurn (cs : List (Addr × Addr)) (B : Addr) : Sp := fun vs H Q _ => ∃ (tb : Addr) (n : Nat) (st : Bool) (a : TA) (S : TSt), vs = [.ref tb, .int (n : Nat), .bl st] ∧ Tabs cs H ∧ TabD B H tb a S ∧ n < S.deeds.length ∧ SetOk S S.signs S.order (turnR S n st) ∧
  Went2 cs B H tb a (settleR S S.signs S.order (turnR S n st)) fun H' => Q .non H'
abbrev nmTurn : List Str := ["self", "number", "stands", "hand", "sign", "mark", "stood", "deeds"]
theorem sc_turn : FnScope nmTurn ["self", "number", "stands"] (defScope (mth nTable 15)) := ⟨rfl, rfl, rfl, by decide +kernel, rfl, by decide +kernel, by decide +kernel⟩
theorem ok_turn {f g : Addr} {fd fdg : FuncData} (T : Txt mg) (X : TabC K B) (F : Fun K "turn" "Table.turn" (mth nTable 15) f fd)
    (M : Meth K B "settle" g) (G : FnOk P w K mg base CX0 11 g fdg ["self", "signs", "order", "deeds"] (spSettle cs B)) (bd : Binds K fdg ["self", "signs", "order", "deeds"] []) : FnOk P w K mg base CX0 12 f fd ["self", "number", "stands"] (spTurn cs B) := by
  refine F.ok sc_turn (fun vs H Q E h => ?_) (fun cdv A outer s H vs Q E hr h => ?_)
  · obtain ⟨tb, n, st, a, S, rfl, _⟩ := h
    rfl
  · obtain ⟨tb, n, st, a, S, rfl, hT, hD, hn, hO, k⟩ := h
    have nd := sc_turn.nd
    refine ⟨_, pss_cons (ps_asg (pe_ix ix_list (pe_fld (pv 0) rfl) (pv 1) (fun _ _ => rfl)) (pg_tup rfl (pgs_cons (pg_name (i := 3) nd rfl (.inl rfl)) (pgs_cons (pg_name (i := 4) nd rfl (.inl rfl)) (pgs_cons (pg_name (i := 5) nd rfl (.inl rfl)) (pgs_cons (pg_name (i := 6) nd rfl (.inl rfl)) pgs_nil))))))
      (pss_cons (ps_set (i := 7) nd rfl (.inl rfl) (pe_callTy call_list_of (by rfl) T.list (by decide +kernel) (pa_cons (pe_fld (pv 0) rfl) pa_nil)))
      (pss_cons (ps_asg (pe_tup (pa_cons (pv 3) (pa_cons (pv 4) (pa_cons (pv 5) (pa_cons (pv 2) pa_nil))))) (pg_sub (pv 7) (pv 1) set_list))
      (pss_one (ps_expr (pe_meth (pv 0) X.cls M G hr bd .nil pass0 (pa_cons (pe_fld (pv 0) rfl) (pa_cons (pe_fld (pv 0) rfl) (pa_cons (pv 7) pa_nil)))))))), ?_⟩
    obtain ⟨d, hd⟩ := getP (xs := S.deeds) (i := n) hn
    obtain ⟨t, ht⟩ := getP (xs := a.da) (i := n) (by rw [hD.de.len]; exact hn)
    have htd := hD.de.at_ n t d ht hd
    have ed : turnR S n st = S.deeds.set n (d.1, d.2.1, d.2.2.1, st) := by unfold turnR; rw [hd]
    refine ⟨_, rfl, tb, B, a.dx, _, _, rfl, hD.ob, X.cls, X.nDeeds, rfl, _, rfl, a.dl, _, _, .ref t, rfl, rfl, SqL.of hD.de.lst, atI_nat (by rw [List.getElem?_map, ht]; rfl), t, _, rfl, .inl (.inl htd), rfl, _, _, rfl, _, _, rfl, _, _, rfl, _, _, rfl, rfl, ?_⟩
    refine ⟨_, rfl, tb, B, a.dx, _, _, rfl, hD.ob, X.cls, X.nDeeds, rfl, a.dl, _, rfl, .inl (SqL.of hD.de.lst), fun L nL => ?_⟩
    have x1 : ∀ {o : HO}, Same H (upd H L o) := same_new nL
    refine ⟨_, rfl, _, rfl, _, rfl, _, rfl, by show 4 ≤ sizeLine; decide, fun p np => ⟨_, rfl, _, rfl, L, _, _, n, rfl, rfl, by rw [upd_ne (ne_of_none upd_same np)]; exact upd_same, ixN_nat (by rw [List.length_map, hD.de.len]; exact hn), ?_⟩⟩
    have npL : p ≠ L := fun e => by rw [e, upd_same] at np; cases np
    have np0 : H p = none := by rw [upd_ne npL] at np; exact np
    have em : (a.da.map V.ref).set n (V.ref p) = (a.da.set n p).map V.ref := by rw [List.map_set]
    dsimp only
    rw [em]
    have hx : ∀ c o, H c = some o → upd (upd (upd H L (.lst (a.da.map V.ref))) p (.tup [.int (d.1 : Nat), .str d.2.1, .int (d.2.2.1 : Nat), .bl st])) L (.lst ((a.da.set n p).map V.ref)) c = some o := fun c o h => by
      rw [upd_ne (ne_of_none h nL), upd_ne (ne_of_none h np0), upd_ne (ne_of_none h nL)]
      exact h
    have hxs : Same H (upd (upd (upd H L (.lst (a.da.map V.ref))) p (.tup [.int (d.1 : Nat), .str d.2.1, .int (d.2.2.1 : Nat), .bl st])) L (.lst ((a.da.set n p).map V.ref))) := hx
    have hp : upd (upd (upd H L (.lst (a.da.map V.ref))) p (.tup [.int (d.1 : Nat), .str d.2.1, .int (d.2.2.1 : Nat), .bl st])) L (.lst ((a.da.set n p).map V.ref)) p = some (.tup [.int (d.1 : Nat), .str d.2.1, .int (d.2.2.1 : Nat), .bl st]) := by rw [upd_ne npL, upd_same]
    have hL : upd (upd (upd H L (.lst (a.da.map V.ref))) p (.tup [.int (d.1 : Nat), .str d.2.1, .int (d.2.2.1 : Nat), .bl st])) L (.lst ((a.da.set n p).map V.ref)) L = some (.lst ((a.da.set n p).map V.ref)) := upd_same
    generalize upd (upd (upd H L (.lst (a.da.map V.ref))) p (.tup [.int (d.1 : Nat), .str d.2.1, .int (d.2.2.1 : Nat), .bl st])) L (.lst ((a.da.set n p).map V.ref)) = H1 at hxs hp hL ⊢
    clear hx
    have hD1 := hD.same hxs
    have e1 := same_ex hxs hT
    have hdl : DeedsAt H1 L (a.da.set n p) (turnR S n st) := by
      refine ⟨hL, by rw [List.length_set, turnR_len]; exact hD.de.len, fun i q dd h1 h2 => ?_⟩
      rw [ed] at h2
      by_cases e : i = n
      · subst e
        rw [List.getElem?_set_self (by rw [hD.de.len]; exact hn)] at h1
        rw [List.getElem?_set_self hn] at h2
        cases h1
        cases h2
        exact hp
      · rw [List.getElem?_set_ne (fun z => e z.symm)] at h1 h2
        exact hxs _ _ (hD.de.at_ i q dd h1 h2)
    have old : ∀ {c : Addr} {o : HO}, H c = some o → c ≠ L := fun h => ne_of_none h nL
    have ou : ∀ c ∈ a.ud :: a.ua, c ≠ a.sg ∧ c ≠ a.od ∧ c ≠ L := fun c hc => by
      obtain ⟨h1, h2, _, _⟩ := hD.dj c (List.mem_cons_of_mem _ hc)
      refine ⟨h1, h2, ?_⟩
      rcases List.mem_cons.mp hc with e | e
      · rw [e]; exact old hD.ud
      · obtain ⟨i, hi⟩ := List.mem_iff_getElem?.mp e
        obtain ⟨l, hl⟩ := getP (xs := S.undone) (i := i) (by rw [← hD.ul]; exact (List.getElem?_eq_some_iff.mp hi).1)
        exact old (hD.un i c l hi hl)
    refine ⟨_, rfl, tb, a.dx, _, rfl, hD1.ob, rfl, _, rfl, tb, B, a.dx, _, _, rfl, hD1.ob, X.cls, X.nSigns, rfl, _, rfl, tb, B, a.dx, _, _, rfl, hD1.ob, X.cls, X.nOrder, rfl, _, rfl, tb, a.sg, a.od, L, a, S, S.signs, S.order, turnR S n st, _, rfl, e1.tab, hD1, hD1.sg, hD1.od, hdl, ou, hO, fun th sp H2 nth nsp kk t2 o2 hD2 => ?_⟩
    refine k (setA a a.sg a.od th L sp (a.da.set n p)) H2 rfl rfl (fun c o h n m => kk c o (hxs c o h) n m) (fun c hc => ?_) t2 (fun b hb => e1.old b (o2 b hb)) hD2
    rcases setA_own hc with z | z | z | z | z | z
    · exact .inl z
    · exact .inl (z ▸ .inr (.inl rfl))
    · exact .inl (z ▸ .inr (.inr (.inl rfl)))
    · exact .inr (z ▸ same_old hxs nth)
    · exact .inr (z ▸ nL)
    · exact .inr (z ▸ same_old hxs nsp)
end
end TG

namespace TG
open PySem PySem.Spec PyProof.Rows L2 Gx
/-! ### back, again, rub -/
structure ErrC (K : PySem.W.Frag) (mg : Str → Option Value) (x : Str) (C G : Addr) : Prop where
  mg_ : mg x = some (.ref C)
  exc : PySem.W.excIn K C [.type "ValueError", .type "Exception", .type "BaseException", .type "object"] "ValueError.__new__" = true
  kp : PySem.W.keepIn K (.ref C) = true
  sub : PySem.W.subIn K (.ref C) (.type "BaseException") = some true
  ty : PySem.W.typeIn K (.ref C) = some (.type "type")
  up : PySem.W.exmOne K (.ref C) (.ref G) = some true
def d0 : Deed := (0, "", 0, false)
def stR (ds : List Deed) (h n : Nat) : List Nat := (List.range n).filter fun i => decide ((ds.getD i d0).1 = h) && (ds.getD i d0).2.2.2
theorem stR_succ {ds : List Deed} {h i : Nat} {d : Deed} (hd : ds[i]? = some d) : stR ds h (i + 1) = stR ds h i ++ if (decide (d.1 = h) && d.2.2.2) = true then [i] else [] := by
  have e : ds.getD i d0 = d := by rw [List.getD_eq_getElem?_getD, hd]; rfl
  unfold stR
  rw [List.range_succ, List.filter_append, List.filter_cons, List.filter_nil, e]
theorem stR_len (ds : List Deed) (h n : Nat) : (stR ds h n).length ≤ n := by
  unfold stR
  have := List.length_filter_le (fun i => decide ((ds.getD i d0).1 = h) && (ds.getD i d0).2.2.2) (List.range n)
  rw [List.length_range] at this
  exact this
theorem stR_lt {ds : List Deed} {h n m : Nat} (hm : m ∈ stR ds h n) : m < n := List.mem_range.mp (List.mem_filter.mp hm).1
theorem atN_last {l : List Nat} (h : l ≠ []) : atI (nV l) (-1) = some (.int (l.getLast?.getD 0 : Nat)) := by
  have lp : 0 < l.length := List.length_pos_iff.mpr h
  have e : ixN (nV l).length (-1) = some (l.length - 1) := by
    unfold ixN nV
    rw [List.length_map]
    simp
    omega
  unfold atI
  rw [e]
  show (nV l)[l.length - 1]? = _
  refine (nV_get (m := l.getLast?.getD 0) ?_)
  rw [List.getLast?_eq_getElem?, List.getElem?_eq_getElem (by omega)]
  rfl
/-- what going back does -/
def backR (S : TSt) (h : Nat) : Bool × TSt := match (stR S.deeds h S.deeds.length).getLast? with
  | none => (false, S)
  | some n => (true, { settleR S S.signs S.order (turnR S n false) with undone := S.undone.set h (S.undone.getD h [] ++ [n]) })
def againR (S : TSt) (h : Nat) : Bool × TSt := match (S.undone.getD h []).getLast? with
  | none => (false, S)
  | some n => (true, { settleR S S.signs S.order (turnR S n true) with undone := S.undone.set h (S.undone.getD h []).dropLast })
def rubR (S : TSt) (h m : Nat) : TSt := { settleR S S.signs S.order (S.deeds ++ [((h, ("" : Str), m, true) : Deed)]) with undone := S.undone.set h [] }
theorem ownT_eq {tb : Addr} {a : TA} {u : List Addr} {c : Addr} (h : ownT tb { a with ua := u } c) : ownT tb a c ∨ c ∈ u := by
  rcases h with e | e | e | e | e | e | e | e
  · exact .inl (.inl e)
  · exact .inl (.inr (.inl e))
  · exact .inl (.inr (.inr (.inl e)))
  · exact .inl (.inr (.inr (.inr (.inl e))))
  · exact .inl (.inr (.inr (.inr (.inr (.inl e)))))
  · exact .inl (.inr (.inr (.inr (.inr (.inr (.inl e))))))
  · exact .inl (.inr (.inr (.inr (.inr (.inr (.inr (.inl e)))))))
  · exact .inr e
section
variable {P : Program} {w : World} {K : PySem.W.Frag} {mg : Str → Option Value} {base : Heap} {cs : List (Addr × Addr)} {B C G : Addr}
def spTBack (cs : List (Addr × Addr)) (B : Addr) : Sp := fun vs H Q _ => ∃ (tb : Addr) (h : Nat) (a : TA) (S : TSt), vs = [.ref tb, .int (h : Nat)] ∧ Tabs cs H ∧ TabD B H tb a S ∧ TOk S ∧ h < S.spots.length ∧ (∀ n ∈ stR S.deeds h S.deeds.length, SetOk S S.signs S.order (turnR S n false)) ∧
  Went cs B H tb a (backR S h).2 fun H' => Q (.bl (backR S h).1) H'
abbrev nmTBack : List Str := ["self", "hand", "standing", "number", "own", "sign", "mark", "stands"]
theorem sc_tback : FnScope nmTBack ["self", "hand"] (defScope (mth nTable 3)) := ⟨rfl, rfl, rfl, by decide +kernel, rfl, by decide +kernel, by decide +kernel⟩
theorem ok_tback {f g1 g2 : Addr} {fd fd1 fd2 : FuncData} (T : Txt mg) (X : TabC K B) (F : Fun K "back" "Table.back" (mth nTable 3) f fd)
    (M1 : Meth K B "check_hand" g1) (G1 : FnOk P w K mg base CX0 2 g1 fd1 ["self", "hand"] (spHand B)) (b1 : Binds K fd1 ["self", "hand"] [])
    (M2 : Meth K B "turn" g2) (G2 : FnOk P w K mg base CX0 12 g2 fd2 ["self", "number", "stands"] (spTurn cs B)) (b2 : Binds K fd2 ["self", "number", "stands"] []) : FnOk P w K mg base CX0 13 f fd ["self", "hand"] (spTBack cs B) := by
  refine F.ok sc_tback (fun vs H Q E h => ?_) (fun cdv A outer s H vs Q E hr h => ?_)
  · obtain ⟨tb, h, a, S, rfl, _⟩ := h
    rfl
  · obtain ⟨tb, h, a, S, rfl, hT, hD, hO, hh, hs, k⟩ := h
    have nd := sc_tback.nd
    have r2 : Room 2 _ := hr.mono (by decide)
    have szl : (9000 : Nat) < sizeLine := by decide
    have dn := hO.dn
    refine ⟨_, pss_cons (ps_expr (pe_meth (pv 0) X.cls M1 G1 r2 b1 .nil pass0 (pa_cons (pv 1) pa_nil)))
      (pss_cons (ps_setLc (i := 2) (own := [("number", 3), ("own", 4), ("sign", 5), ("mark", 6), ("stands", 7)]) (g := gTup K 2 (gCons (gName 3) (gCons (gTup K 4 (gCons (gName 4) (gCons (gName 5) (gCons (gName 6) (gCons (gName 7) gNil))))) gNil))) rfl nd rfl rfl (sw_true rfl rfl rfl (by decide +kernel)) (pi_enum (by rfl) T.enum (pa_cons (pe_fld (pv 0) rfl) pa_nil)) (blkOk_by (own := [("number", 3), ("own", 4), ("sign", 5), ("mark", 6), ("stands", 7)]) (N := nmTBack) (sc := defScope (mth nTable 3)) (by decide +kernel))
        (fun _ _ _ _ _ => pg_tup rfl (pgs_cons (pg_name (i := 3) nd rfl (.inl rfl) (.inr rfl)) (pgs_cons (pg_tup rfl (pgs_cons (pg_name (i := 4) nd rfl (.inl rfl) (.inr rfl)) (pgs_cons (pg_name (i := 5) nd rfl (.inl rfl) (.inr rfl)) (pgs_cons (pg_name (i := 6) nd rfl (.inl rfl) (.inr rfl)) (pgs_cons (pg_name (i := 7) nd rfl (.inl rfl) (.inr rfl)) pgs_nil))))) pgs_nil)))
        (fun _ _ _ _ _ => pts_one (PW.pt (pw_and (pt_cmpR op_eq (pv 4) (pv 1) (nomark _)) (pw_and1 (pt_val (pv 7)))))) (fun _ _ _ _ _ => pv 3))
      (pss_cons (ps_if (pt_cmpR op_eq (pe_callB call_len_seq (by rfl) T.len PySem.boot_len (pa_cons (pv 2) pa_nil)) pe_int (nomark _)) (pss_one (ps_ret pe_bl)) pss_nil)
      (pss_cons (ps_expr (pe_meth (pv 0) X.cls M2 G2 hr b2 .nil pass0 (pa_cons (pe_ix ix_list (pv 2) (pe_un un_neg pe_int) (fun _ _ => rfl)) (pa_cons pe_bl pa_nil))))
      (pss_cons (ps_expr (pe_bm PySem.F.plainAttrs_list PySem.F.slot_list_append PySem.F.type_list_append mt_append (pe_ix ix_list (pe_fld (pv 0) rfl) (pv 1) (fun _ _ => rfl)) (pa_cons (pe_ix ix_list (pv 2) (pe_un un_neg pe_int) (fun _ _ => rfl)) pa_nil)))
      (pss_one (ps_ret pe_bl)))))), ?_⟩
    refine ⟨_, rfl, tb, a.dx, _, rfl, hD.ob, rfl, _, rfl, tb, h, a, S, rfl, hD, hh, ?_⟩
    refine ⟨_, rfl, tb, B, a.dx, _, _, rfl, hD.ob, X.cls, X.nDeeds, rfl, a.dl, _, rfl, SqL.of hD.de.lst, fun D nD => lc_it (walk_enum (xs := a.da.map V.ref)) (fun i H' => Same H H' ∧ H' D = some (.lst (nV (stR S.deeds h i)))) ⟨same_new nD, upd_same⟩ (fun i H' _ x => SqL.of (x.1 _ _ hD.de.lst)) ?_ ?_⟩
    · rintro i x H3 H4 hi ⟨o1, o2⟩ ⟨Tp, v, u, rfl, hn, rfl, hv, hu⟩
      cases hv
      obtain ⟨t, ht, rfl⟩ := get_map hu
      obtain ⟨d, hd⟩ := getP (xs := S.deeds) (i := i) (by rw [← hD.de.len]; exact (List.getElem?_eq_some_iff.mp ht).1)
      have x4 : Same H3 (upd H3 Tp (.tup [.int (i : Nat), .ref t])) := same_new hn
      have hTp : upd H3 Tp (.tup [.int (i : Nat), .ref t]) Tp = some (.tup [.int (i : Nat), .ref t]) := upd_same
      generalize upd H3 Tp (.tup [.int (i : Nat), .ref t]) = H4 at x4 hTp ⊢
      have htd := x4 _ _ (o1 _ _ (hD.de.at_ i t d ht hd))
      have li := (List.getElem?_eq_some_iff.mp hd).1
      refine ⟨Tp, _, rfl, .inl (.inl hTp), rfl, _, _, rfl, _, _, rfl, ⟨t, _, rfl, .inl (.inl htd), rfl, _, _, rfl, _, _, rfl, _, _, rfl, _, _, rfl, rfl, rfl, rfl, ?_⟩⟩
      rw [stR_succ hd]
      refine ⟨_, rfl, _, rfl, rfl, _, rfl, ?_⟩
      have ei : decide (V.int (d.1 : Nat) = V.int (h : Nat)) = decide (d.1 = h) := by
        by_cases c : d.1 = h
        · rw [decide_eq_true c, c, decide_eq_true rfl]
        · rw [decide_eq_false c, decide_eq_false (fun z => c (by injection z with z; omega))]
      rw [ei]
      have sl := stR_len S.deeds h i
      have o24 := x4 _ _ o2
      have ok4 : Same H H4 := same_trans o1 x4
      have fin : (decide (d.1 = h) && d.2.2.2) = true → ∃ acc, H4 D = some (.lst acc) ∧ acc.length < sizeLine ∧ (Same H (upd H4 D (.lst (acc ++ [.int (i : Nat)]))) ∧ upd H4 D (.lst (acc ++ [.int (i : Nat)])) D = some (.lst (nV (stR S.deeds h i ++ if (decide (d.1 = h) && d.2.2.2) = true then [i] else [])))) := fun c => by
        rw [if_pos c]
        exact ⟨_, o24, by rw [nV_len]; omega, same_upd ok4 nD, by rw [upd_same]; simp [nV]⟩
      by_cases c : d.1 = h
      · rw [decide_eq_true c]
        cases e2 : d.2.2.2 with
        | true =>
          rw [decide_eq_true c, e2] at fin
          exact iteT ⟨_, rfl, true, rfl, iteT ⟨_, rfl, fin rfl⟩⟩
        | false =>
          refine iteT ⟨_, rfl, false, rfl, iteF ⟨ok4, ?_⟩⟩
          simpa using o24
      · rw [decide_eq_false c]
        refine iteF (iteF ⟨ok4, ?_⟩)
        simpa using o24
    · rintro H1 ⟨x1, hDl⟩
      have e0 : (a.da.map V.ref).length = S.deeds.length := by rw [List.length_map]; exact hD.de.len
      rw [e0] at hDl
      have hD1 := hD.same x1
      have e1 := same_ex x1 hT
      have el : (nV (stR S.deeds h S.deeds.length)).length = (stR S.deeds h S.deeds.length).length := nV_len _
      refine ⟨_, rfl, D, _, rfl, .inl (SqL.of hDl), rfl, _, rfl, ?_⟩
      rw [el]
      unfold backR at k
      cases eg : (stR S.deeds h S.deeds.length).getLast? with
      | none =>
        rw [eg] at k
        rw [List.getLast?_eq_none_iff.mp eg]
        exact iteT (k a H1 (KN.same x1) (fun c hc => .inl hc) e1.tab (fun b hb => same_old x1 hb) hD1)
      | some n =>
        rw [eg] at k
        have mn := List.mem_of_getLast? eg
        have ne : stR S.deeds h S.deeds.length ≠ [] := fun z => by rw [z] at mn; cases mn
        have lp : 0 < (stR S.deeds h S.deeds.length).length := List.length_pos_iff.mpr ne
        have en : (stR S.deeds h S.deeds.length).getLast?.getD 0 = n := by rw [eg]; rfl
        have la := atN_last ne
        rw [en] at la
        rw [decide_eq_false (fun z => by injection z with z; omega)]
        have hu : h < S.undone.length := by rw [← hO.hn]; exact hh
        refine iteF ⟨_, rfl, tb, a.dx, _, rfl, hD1.ob, rfl, _, rfl, 1, rfl, D, _, _, _, rfl, rfl, SqL.of hDl, la, tb, n, false, a, S, rfl, e1.tab, hD1, stR_lt mn, hs n mn, fun a' H2 eud eua kk ho t2 o2 hD2 => ?_⟩
        have nDt : D ≠ tb := fun z => by have := x1 _ _ hD.ob; rw [← z, hDl] at this; cases this
        have hDl2 := kk _ _ hDl (.inl fun ps z => by cases z) nDt
        obtain ⟨u, l, q1, q2, q3⟩ := hD2.nth (h := h) (by exact hu)
        have q2' : S.undone[h]? = some l := q2
        have el2 : S.undone.getD h [] = l := by rw [List.getD_eq_getElem?_getD, q2']; rfl
        have ll := (hO.un l (List.mem_of_getElem? q2')).1
        refine ⟨_, rfl, tb, B, _, _, _, rfl, hD2.ob, X.cls, X.nUndone, rfl, _, rfl, _, _, _, .ref u, rfl, rfl, SqL.of hD2.ud, atI_nat (by rw [List.getElem?_map, q1]; rfl), .inl ⟨rfl, _, SqL.of q3⟩, _, rfl, 1, rfl, D, _, _, _, rfl, rfl, SqL.of hDl2, la, u, _, _, rfl, rfl, q3, by rw [nV_len]; omega, ?_⟩
        have ea : nV l ++ [V.int (n : Nat)] = nV (l ++ [n]) := by simp [nV]
        rw [ea]
        rw [el2] at k
        have hD3 := hD2.und q1 (l ++ [n])
        have k2 : KN cs (ownT tb a) H H2 := fun c o h m nn => kk c o (x1 c o h) m fun z => nn (.inl z)
        have hc' : ∀ c, ownT tb a' c → ownT tb a c ∨ H c = none := fun c hc => (ho c hc).imp id fun z => same_old x1 z
        have uo : ownT tb a u := .inr (.inr (.inr (.inr (.inr (.inr (.inr (by rw [← eua]; exact List.mem_of_getElem? q1)))))))
        refine k a' _ (k2.tr (upd_ownN uo)) hc' (tabs_lst t2 q3) (fun b hb => same_old x1 (o2 b (upd_old q3 hb))) hD3
end
end TG

namespace TG
open PySem PySem.Spec PyProof.Rows L2 Gx
section
variable {P : Program} {w : World} {K : PySem.W.Frag} {mg : Str → Option Value} {base : Heap} {cs : List (Addr × Addr)} {B C G : Addr}
def spTAgain (cs : List (Addr × Addr)) (B : Addr) : Sp := fun vs H Q _ => ∃ (tb : Addr) (h : Nat) (a : TA) (S : TSt), vs = [.ref tb, .int (h : Nat)] ∧ Tabs cs H ∧ TabD B H tb a S ∧ TOk S ∧ h < S.spots.length ∧ (∀ n ∈ S.undone.getD h [], SetOk S S.signs S.order (turnR S n true)) ∧
  Went cs B H tb a (againR S h).2 fun H' => Q (.bl (againR S h).1) H'
theorem sc_tagain : FnScope ["self", "hand"] ["self", "hand"] (defScope (mth nTable 4)) := ⟨rfl, rfl, rfl, by decide +kernel, rfl, by decide +kernel, by decide +kernel⟩
theorem ok_tagain {f g1 g2 : Addr} {fd fd1 fd2 : FuncData} (T : Txt mg) (X : TabC K B) (F : Fun K "again" "Table.again" (mth nTable 4) f fd)
    (M1 : Meth K B "check_hand" g1) (G1 : FnOk P w K mg base CX0 2 g1 fd1 ["self", "hand"] (spHand B)) (b1 : Binds K fd1 ["self", "hand"] [])
    (M2 : Meth K B "turn" g2) (G2 : FnOk P w K mg base CX0 12 g2 fd2 ["self", "number", "stands"] (spTurn cs B)) (b2 : Binds K fd2 ["self", "number", "stands"] []) : FnOk P w K mg base CX0 13 f fd ["self", "hand"] (spTAgain cs B) := by
  refine F.ok sc_tagain (fun vs H Q E h => ?_) (fun cdv A outer s H vs Q E hr h => ?_)
  · obtain ⟨tb, h, a, S, rfl, _⟩ := h
    rfl
  · obtain ⟨tb, h, a, S, rfl, hT, hD, hO, hh, hs, k⟩ := h
    have r2 : Room 2 _ := hr.mono (by decide)
    refine ⟨_, pss_cons (ps_expr (pe_meth (pv 0) X.cls M1 G1 r2 b1 .nil pass0 (pa_cons (pv 1) pa_nil)))
      (pss_cons (ps_if (pt_cmpR op_eq (pe_callB call_len_seq (by rfl) T.len PySem.boot_len (pa_cons (pe_ix ix_list (pe_fld (pv 0) rfl) (pv 1) (fun _ _ => rfl)) pa_nil)) pe_int (nomark _)) (pss_one (ps_ret pe_bl)) pss_nil)
      (pss_cons (ps_expr (pe_meth (pv 0) X.cls M2 G2 hr b2 .nil pass0 (pa_cons (pe_ix ix_list (pe_ix ix_list (pe_fld (pv 0) rfl) (pv 1) (fun _ _ => rfl)) (pe_un un_neg pe_int) (fun _ _ => rfl)) (pa_cons pe_bl pa_nil))))
      (pss_cons (ps_expr (pe_bm0 PySem.F.plainAttrs_list PySem.F.slot_list_pop PySem.F.type_list_pop mt_pop (pe_ix ix_list (pe_fld (pv 0) rfl) (pv 1) (fun _ _ => rfl))))
      (pss_one (ps_ret pe_bl))))), ?_⟩
    have hu : h < S.undone.length := by rw [← hO.hn]; exact hh
    obtain ⟨u, l, q1, q2, q3⟩ := hD.nth hu
    have el : S.undone.getD h [] = l := by rw [List.getD_eq_getElem?_getD, q2]; rfl
    have eq1 : (a.ua.map V.ref)[h]? = some (.ref u) := by rw [List.getElem?_map, q1]; rfl
    refine ⟨_, rfl, tb, a.dx, _, rfl, hD.ob, rfl, _, rfl, tb, h, a, S, rfl, hD, hh, ?_⟩
    refine ⟨_, rfl, tb, B, a.dx, _, _, rfl, hD.ob, X.cls, X.nUndone, rfl, _, rfl, a.ud, _, _, .ref u, rfl, rfl, SqL.of hD.ud, atI_nat eq1, u, _, rfl, .inl (SqL.of q3), rfl, _, rfl, ?_⟩
    rw [nV_len]
    unfold againR at k
    rw [el] at k hs
    cases eg : l.getLast? with
    | none =>
      rw [eg] at k
      rw [List.getLast?_eq_none_iff.mp eg]
      exact iteT (k a H (KN.same same_refl) (fun c hc => .inl hc) hT (fun b hb => hb) hD)
    | some n =>
      rw [eg] at k
      have mn := List.mem_of_getLast? eg
      have ne : l ≠ [] := fun z => by rw [z] at mn; cases mn
      have lp : 0 < l.length := List.length_pos_iff.mpr ne
      have en : l.getLast?.getD 0 = n := by rw [eg]; rfl
      have la := atN_last ne
      rw [en] at la
      rw [decide_eq_false (fun z => by injection z with z; omega)]
      refine iteF ⟨_, rfl, tb, a.dx, _, rfl, hD.ob, rfl, _, rfl, tb, B, a.dx, _, _, rfl, hD.ob, X.cls, X.nUndone, rfl, _, rfl, a.ud, _, _, .ref u, rfl, rfl, SqL.of hD.ud, atI_nat eq1, 1, rfl, u, _, _, _, rfl, rfl, SqL.of q3, la, tb, n, true, a, S, rfl, hT, hD, (hO.un l (List.mem_of_getElem? q2)).2 n mn, hs n mn, fun a' H2 eud eua kk ho t2 o2 hD2 => ?_⟩
      have q1' : a'.ua[h]? = some u := by rw [eua]; exact q1
      have q3' : H2 u = some (.lst (nV l)) := hD2.un h u l q1' q2
      have lx : (nV l)[(nV l).length - 1]? = some (.int (n : Nat)) := by
        rw [nV_len]
        refine nV_get ?_
        rw [← en, List.getLast?_eq_getElem?, List.getElem?_eq_getElem (by omega)]
        rfl
      refine ⟨_, rfl, tb, B, _, _, _, rfl, hD2.ob, X.cls, X.nUndone, rfl, _, rfl, _, _, _, .ref u, rfl, rfl, SqL.of hD2.ud, atI_nat (by rw [List.getElem?_map, q1']; rfl), .inl ⟨rfl, _, SqL.of q3'⟩, u, _, _, rfl, rfl, q3', lx, ?_⟩
      have ea : (nV l).dropLast = nV l.dropLast := by unfold nV; rw [List.map_dropLast]
      rw [ea]
      have hD3 := hD2.und q1' l.dropLast
      have uo : ownT tb a u := .inr (.inr (.inr (.inr (.inr (.inr (.inr (List.mem_of_getElem? q1)))))))
      have k2 : KN cs (ownT tb a) H H2 := fun c o h m nn => kk c o h m fun z => nn (.inl z)
      exact k a' _ (k2.tr (upd_ownN uo)) ho (tabs_lst t2 q3') (fun b hb => o2 b (upd_old q3' hb)) hD3
/-! ### rub -/
def spTRub (cs : List (Addr × Addr)) (B C : Addr) : Sp := fun vs H Q E => ∃ (tb : Addr) (h : Nat) (a : TA) (S : TSt), vs = [.ref tb, .int (h : Nat)] ∧ Tabs cs H ∧ TabD B H tb a S ∧ TOk S ∧ h < S.spots.length ∧
  (∀ m, nearR S h (-1) = some m → SetOk S S.signs S.order (S.deeds ++ [((h, ("" : Str), m, true) : Deed)]) ∧ Went cs B H tb a (rubR S h m) fun H' => Q .non H') ∧
  (nearR S h (-1) = none → ∀ H', Ex cs H H' → E (.ref C) none H')
abbrev nmTRub : List Str := ["self", "hand", "mark"]
theorem sc_trub : FnScope nmTRub ["self", "hand"] (defScope (mth nTable 2)) := ⟨rfl, rfl, rfl, by decide +kernel, rfl, by decide +kernel, by decide +kernel⟩
theorem ok_trub {f g1 g2 g3 : Addr} {fd fd1 fd2 fd3 : FuncData} (T : Txt mg) (Er : ErrC K mg "BadCell" C G) (X : TabC K B) (F : Fun K "rub" "Table.rub" (mth nTable 2) f fd)
    (M1 : Meth K B "check_hand" g1) (G1 : FnOk P w K mg base CX0 2 g1 fd1 ["self", "hand"] (spHand B)) (b1 : Binds K fd1 ["self", "hand"] [])
    (M2 : Meth K B "near" g2) (G2 : FnOk P w K mg base CX0 3 g2 fd2 ["self", "hand", "by"] (spNear B)) (b2 : Binds K fd2 ["self", "hand", "by"] [])
    (M3 : Meth K B "settle" g3) (G3 : FnOk P w K mg base CX0 11 g3 fd3 ["self", "signs", "order", "deeds"] (spSettle cs B)) (b3 : Binds K fd3 ["self", "signs", "order", "deeds"] []) : FnOk P w K mg base (L2.CX P w) 12 f fd ["self", "hand"] (spTRub cs B C) := by
  refine F.okX sc_trub (fun vs H Q E h => ?_) (fun cdv A outer s H vs Q E hr h => ?_)
  · obtain ⟨tb, h, a, S, rfl, _⟩ := h
    rfl
  · obtain ⟨tb, h, a, S, rfl, hT, hD, hO, hh, ky, kn⟩ := h
    have nd := sc_trub.nd
    have r2 : Room 2 _ := hr.mono (by decide)
    have r3 : Room 3 _ := hr.mono (by decide)
    refine ⟨_, pss_cons (ps_expr (pe_meth (pv 0) X.cls M1 G1 r2 b1 .nil pass0 (pa_cons (pv 1) pa_nil)))
      (pss_cons (ps_set (i := 2) nd rfl (.inl rfl) (pe_meth (pv 0) X.cls M2 G2 r3 b2 .nil pass0 (pa_cons (pv 1) (pa_cons (pe_un un_neg pe_int) pa_nil))))
      (pss_cons (ps_if (pt_cmpR op_isN (pv 2) pe_non (nomark _)) (pss_one (ps_raise rfl (takes_of rfl rfl rfl rfl) (pmk_own PySem.F.excBase_ValueError Er.exc Er.mg_ Er.kp (raises_own Er.sub Er.ty) rfl))) pss_nil)
      (pss_cons (ps_expr (pe_meth (pv 0) X.cls M3 G3 hr b3 .nil pass0 (pa_cons (pe_fld (pv 0) rfl) (pa_cons (pe_fld (pv 0) rfl) (pa_cons (pe_op op_cat (pe_fld (pv 0) rfl) (pe_lst (pa_cons (pe_tup (pa_cons (pv 1) (pa_cons pe_str (pa_cons (pv 2) (pa_cons pe_bl pa_nil))))) pa_nil))) pa_nil)))))
      (pss_one (ps_asg (pe_lst pa_nil) (pg_sub (pe_fld (pv 0) rfl) (pv 1) set_list)))))), ?_⟩
    refine ⟨_, rfl, tb, a.dx, _, rfl, hD.ob, rfl, _, rfl, tb, h, a, S, rfl, hD, hh, ?_⟩
    refine ⟨_, rfl, tb, a.dx, _, rfl, hD.ob, rfl, _, rfl, 1, rfl, tb, h, -1, a, S, rfl, hD, hO, hh, fun H1 x1 => ?_⟩
    have hD1 := hD.same x1
    have e1 := same_ex x1 hT
    cases e : nearR S h (-1) with
    | none => exact ⟨_, rfl, rfl, true, rfl, iteT (kn e H1 e1)⟩
    | some m =>
      obtain ⟨hS, k⟩ := ky m e
      refine ⟨_, rfl, rfl, false, rfl, iteF ?_⟩
      have dl := hS.dn
      rw [List.length_append] at dl
      have szl : (9000 : Nat) < sizeLine := by decide
      refine ⟨_, rfl, tb, a.dx, _, rfl, hD1.ob, rfl, _, rfl, tb, B, a.dx, _, _, rfl, hD1.ob, X.cls, X.nSigns, rfl, _, rfl, tb, B, a.dx, _, _, rfl, hD1.ob, X.cls, X.nOrder, rfl, _, rfl, tb, B, a.dx, _, _, rfl, hD1.ob, X.cls, X.nDeeds, rfl, _, rfl, _, rfl, by show 4 ≤ sizeLine; decide, fun p np => ⟨by show 1 ≤ sizeLine; decide, fun q nq => ?_⟩⟩
      have y1 := same_new (o := .tup [.int (h : Nat), .str "", nonN (some m), .bl true]) np
      have y2 := same_new (o := .lst [.ref p]) nq
      have hq : upd (upd H1 p (.tup [.int (h : Nat), .str "", nonN (some m), .bl true])) q (.lst [.ref p]) q = some (.lst [.ref p]) := upd_same
      have hp := y2 _ _ (upd_same (H := H1) (a := p) (o := .tup [.int (h : Nat), .str "", nonN (some m), .bl true]))
      have yy := same_trans y1 y2
      show rCat _ _ (upd (upd H1 p (.tup [.int (h : Nat), .str "", nonN (some m), .bl true])) q (.lst [.ref p])) _
      generalize upd (upd H1 p (.tup [.int (h : Nat), .str "", nonN (some m), .bl true])) q (.lst [.ref p]) = H2 at yy hq hp ⊢
      clear y1 y2
      have hD2 := hD1.same yy
      refine ⟨a.dl, q, _, _, rfl, rfl, hD2.de.lst, hq, by rw [List.length_map, hD.de.len]; simp at dl ⊢; omega, fun L nL => ?_⟩
      have y3 : ∀ {o : HO}, Same H2 (upd H2 L o) := same_new nL
      have em : a.da.map V.ref ++ [V.ref p] = (a.da ++ [p]).map V.ref := by rw [List.map_append]; rfl
      rw [em]
      have hL : upd H2 L (.lst ((a.da ++ [p]).map V.ref)) L = some (.lst ((a.da ++ [p]).map V.ref)) := upd_same
      have hp3 := y3 (o := .lst ((a.da ++ [p]).map V.ref)) _ _ hp
      have y3' := y3 (o := .lst ((a.da ++ [p]).map V.ref))
      generalize upd H2 L (.lst ((a.da ++ [p]).map V.ref)) = H3 at y3' hL hp3 ⊢
      have x3 : Same H H3 := same_trans x1 (same_trans yy y3')
      have hD3 := hD.same x3
      have e3 := same_ex x3 hT
      have nL0 : H L = none := same_old x1 (same_old yy nL)
      have hdl : DeedsAt H3 L (a.da ++ [p]) (S.deeds ++ [((h, ("" : Str), m, true) : Deed)]) := by
        refine ⟨hL, by rw [List.length_append, List.length_append, hD.de.len]; rfl, fun i t d h1 h2 => ?_⟩
        by_cases c : i < S.deeds.length
        · rw [List.getElem?_append_left c] at h2
          rw [List.getElem?_append_left (by rw [hD.de.len]; exact c)] at h1
          exact hD3.de.at_ i t d h1 h2
        · rw [List.getElem?_append_right (by omega)] at h2
          rw [List.getElem?_append_right (by rw [hD.de.len]; omega), hD.de.len] at h1
          have z : i - S.deeds.length = 0 := by have := (List.getElem?_eq_some_iff.mp h2).1; simp at this; omega
          rw [z] at h1 h2
          cases h1
          cases h2
          exact hp3
      have ou : ∀ c ∈ a.ud :: a.ua, c ≠ a.sg ∧ c ≠ a.od ∧ c ≠ L := fun c hc => by
        obtain ⟨h1, h2, _, _⟩ := hD.dj c (List.mem_cons_of_mem _ hc)
        refine ⟨h1, h2, ?_⟩
        rcases List.mem_cons.mp hc with e | e
        · rw [e]; exact ne_of_none hD.ud nL0
        · obtain ⟨i, hi⟩ := List.mem_iff_getElem?.mp e
          obtain ⟨l, hl⟩ := getP (xs := S.undone) (i := i) (by rw [← hD.ul]; exact (List.getElem?_eq_some_iff.mp hi).1)
          exact ne_of_none (hD.un i c l hi hl) nL0
      refine ⟨tb, a.sg, a.od, L, a, S, S.signs, S.order, S.deeds ++ [((h, ("" : Str), m, true) : Deed)], _, rfl, e3.tab, hD3, hD3.sg, hD3.od, hdl, ou, hS, fun th sp H4 nth nsp kk t4 o4 hD4 => ?_⟩
      have hu : h < S.undone.length := by rw [← hO.hn]; exact hh
      refine ⟨small0, fun n nn => ⟨_, rfl, tb, B, _, _, _, rfl, by rw [upd_ne (ne_of_none hD4.ob nn)]; exact hD4.ob, X.cls, X.nUndone, rfl, _, rfl, a.ud, _, _, h, rfl, rfl, by rw [upd_ne (ne_of_none hD4.ud nn)]; exact hD4.ud, ixN_nat (by rw [List.length_map, hD4.ul]; exact hu), ?_⟩⟩
      have y5 := same_new (o := .lst []) nn
      have hn5 : upd H4 n (.lst []) n = some (.lst (nV [])) := upd_same
      have n4 : ∀ {c : Addr} {o : HO}, H4 c = some o → n ≠ c := fun h z => by rw [← z, nn] at h; cases h
      generalize upd H4 n (.lst []) = H5 at y5 hn5 ⊢
      have hD5 := hD4.same y5
      have eset : (a.ua.map V.ref).set h (V.ref n) = (a.ua.set h n).map V.ref := by rw [List.map_set]
      have nua : n ∉ a.ua := fun z => by
        obtain ⟨i, hi⟩ := List.mem_iff_getElem?.mp z
        obtain ⟨l, hl⟩ := getP (xs := S.undone) (i := i) (by rw [← hD.ul]; exact (List.getElem?_eq_some_iff.mp hi).1)
        exact n4 (hD4.un i n l hi hl) rfl
      have hD6 := hD5.und0 (h := h) (l := []) hn5 hu ⟨n4 hD4.sp, n4 hD4.ud, nua⟩ ⟨n4 hD4.sg, n4 hD4.od, n4 hD4.th, n4 hD4.de.lst⟩
      dsimp only
      rw [eset]
      have n0 : H n = none := same_old x3 (o4 n nn)
      refine k _ _ (fun c o h m nn2 => ?_) (fun c hc => ?_) (tabs_lst (same_ex y5 t4).tab hD5.ud) (fun b hb => same_old x3 (o4 b (same_old y5 (upd_old hD5.ud hb)))) hD6
      · rw [upd_ne (fun z => nn2 (by rw [z]; exact .inr (.inr (.inr (.inr (.inr (.inr (.inl rfl))))))))]
        exact y5 _ _ (kk c o (x3 c o h) m fun z => nn2 (.inl z))
      · rcases ownT_eq hc with z | z
        · rcases setA_own z with z | z | z | z | z | z
          · exact .inl z
          · exact .inl (z ▸ .inr (.inl rfl))
          · exact .inl (z ▸ .inr (.inr (.inl rfl)))
          · exact .inr (z ▸ same_old x3 nth)
          · exact .inr (z ▸ nL0)
          · exact .inr (z ▸ same_old x3 nsp)
        · rcases List.mem_or_eq_of_mem_set z with z | z
          · exact .inl (.inr (.inr (.inr (.inr (.inr (.inr (.inr z)))))))
          · exact .inr (z ▸ n0)
end
end TG

namespace TG
open PySem PySem.Spec PyProof.Rows L2 Gx
/-! ### list of a text -/
def sgS (z : Str) : List Str := z.cps.toList.map fun c => (⟨#[c]⟩ : Str)
def rListS : List V → Hp → VK → Prop := fun xs H Q => ∃ z : Str, xs = [.str z] ∧ z.length ≤ sizeLine ∧ ∀ l, H l = none → Q (.ref l) (upd H l (.lst (sV (sgS z))))
theorem call_list_txt {X : Cx} (hc : X.calm = true) : CallR X (.type "list") rListS := by
  intro pins s σ H xs us Q I r h
  obtain ⟨z, rfl, hz, q⟩ := h
  obtain ⟨u, rfl, rx⟩ := vals1 r
  obtain ⟨t, rfl⟩ := rx
  refine call_list_str (I.ok.hd hc) z t (fun h' tk acc' c' hk hS hacc => ?_) hz
  refine ⟨.ref s.heap.objs.size, upd H s.heap.objs.size (.lst (sV (sgS z))), I.laid hk (Nat.le_refl _) (show ObjOk X.prog X.w _ _ _ (.lst (sV (sgS z))) from ⟨?_, acc'.toList, c', ?_, ?_⟩), rfl, q _ (I.hok.fresh (Nat.le_refl _))⟩
  · unfold sV sgS
    rw [List.length_map, List.length_map, Array.length_toList]
    exact hz
  · refine vals_of_at (by unfold sV sgS; rw [List.length_map, List.length_map, Array.length_toList, Array.length_toList, hacc.1]) fun j x w h1 h2 => ?_
    obtain ⟨c, u, hcz, rfl⟩ := hacc.2 j w (by rw [← Array.getElem?_toList]; exact h2)
    have e2 : (sV (sgS z))[j]? = some (.str ⟨#[c]⟩) := by
      unfold sV sgS
      rw [List.getElem?_map, List.getElem?_map, Array.getElem?_toList, hcz]
      rfl
    rw [e2] at h1
    cases h1
    exact ⟨u, rfl⟩
  · simpa using hS
/-! ### a table's begin -/
def startR (z : Str) (n : Nat) : TSt := ⟨sgS z ++ [("" : Str)], List.range (z.length + 1), List.replicate (z.length + 1) true, [], List.replicate n 0, List.replicate n []⟩
structure TStp (B : Addr) (H0 : Hp) (tb dx : Addr) (fs : List (Str × V)) (H : Hp) : Prop where
  ob : H tb = some (.ins B dx fs)
  kp : ∀ c o, H0 c = some o → c ≠ tb → H c = some o
  old : ∀ b, H b = none → H0 b = none
section
variable {B tb dx : Addr} {H0 H : Hp} {fs fs' : List (Str × V)}
theorem TStp.new (o : TStp B H0 tb dx fs H) {p : Addr} {x : HO} (n : H p = none) : TStp B H0 tb dx fs (upd H p x) :=
  ⟨by rw [upd_ne (ne_of_none o.ob n)]; exact o.ob, fun c u h m => by rw [upd_ne (ne_of_none (o.kp c u h m) n)]; exact o.kp c u h m, fun b hb => o.old b (upd_none hb).1⟩
theorem TStp.put (o : TStp B H0 tb dx fs H) : TStp B H0 tb dx fs' (upd H tb (.ins B dx fs')) :=
  ⟨upd_same, fun c u h m => by rw [upd_ne m]; exact o.kp c u h m, fun b hb => o.old b (upd_old o.ob hb)⟩
theorem TStp.lst (o : TStp B H0 tb dx fs H) {c : Addr} {xs : List V} (h : H c = some (.lst xs)) : c ≠ tb := fun e => by rw [e, o.ob] at h; cases h
end
section
variable {P : Program} {w : World} {K : PySem.W.Frag} {mg : Str → Option Value} {base : Heap} {cs : List (Addr × Addr)} {B : Addr}
def spTInit (K : PySem.W.Frag) (cs : List (Addr × Addr)) (B : Addr) : Sp := fun vs H Q _ => ∃ (tb p st dx : Addr) (as : List Addr) (rows : List (List Str)) (gap least : Int) (n : Nat), vs = [.ref tb, .ref p, .ref st, .int (n : Nat)] ∧ Tabs cs H ∧ H tb = some (.ins B dx []) ∧ PageAt K H p as rows ∧ PgOk rows ∧ StyleAt K H st gap least ∧ 1 ≤ n ∧ n ≤ 4 ∧
  ∀ (a : TA) (H' : Hp), (∀ c o, H c = some o → NT cs c o → c ≠ tb → H' c = some o) → (∀ c, ownT tb a c → c = tb ∨ H c = none) → Tabs cs H' → (∀ b, H' b = none → H b = none) → TabD B H' tb a (startR (pageT rows) n) → Q .non H'
abbrev nmTInit : List Str := ["self", "page", "style", "hands", "text", "hand"]
theorem sc_tinit : FnScope nmTInit ["self", "page", "style", "hands"] (defScope (mth nTable 0)) := ⟨rfl, rfl, rfl, by decide +kernel, rfl, by decide +kernel, by decide +kernel⟩
theorem ok_tinit {f g1 g2 g3 : Addr} {fd fd1 fd2 fd3 : FuncData} (T : Txt mg) (X : TabC K B) (eM : ∃ t, mg "MOST_HANDS" = some (.int 4 t)) (F : Fun K "__init__" "Table.__init__" (mth nTable 0) f fd)
    (G1 : FnOk P w K mg base CX0 12 g1 fd1 ["page"] (spWrit K cs)) (k1 : PySem.W.keepIn K (.ref g1) = true) (b1 : Binds K fd1 ["page"] []) (m1 : mg "written" = some (.ref g1))
    (G2 : FnOk P w K mg base CX0 2 g2 fd2 ["style"] (spStyle K)) (k2 : PySem.W.keepIn K (.ref g2) = true) (b2 : Binds K fd2 ["style"] []) (m2 : mg "check_style" = some (.ref g2))
    (G3 : FnOk P w K mg base CX0 1 g3 fd3 ["value", "low", "high"] spWholeB) (k3 : PySem.W.keepIn K (.ref g3) = true) (b3 : Binds K fd3 ["value", "low", "high"] []) (m3 : mg "is_whole" = some (.ref g3)) : FnOk P w K mg base CX0 13 f fd ["self", "page", "style", "hands"] (spTInit K cs B) := by
  refine F.ok sc_tinit (fun vs H Q E h => ?_) (fun cdv A outer s H vs Q E hr h => ?_)
  · obtain ⟨tb, p, st, dx, as, rows, gap, least, n, rfl, _⟩ := h
    rfl
  · obtain ⟨tb, p, st, dx, as, rows, gap, least, n, rfl, hT, hob, hP, hO, hS, n1, n4, k⟩ := h
    obtain ⟨tM, eM⟩ := eM
    have nd := sc_tinit.nd
    have r2 : Room 2 _ := hr.mono (by decide)
    have r1 : Room 1 _ := hr.mono (by decide)
    refine ⟨_, pss_cons (ps_set (i := 4) nd rfl (.inl rfl) (pe_call G1 hr (by rfl) m1 k1 b1 .nil pass0 (pa_cons (pv 1) pa_nil)))
      (pss_cons (ps_expr (pe_call G2 r2 (by rfl) m2 k2 b2 .nil pass0 (pa_cons (pv 2) pa_nil)))
      (pss_cons (ps_if (pt_not (pt_val (pe_call G3 r1 (by rfl) m3 k3 b3 .nil pass0 (pa_cons (pv 3) (pa_cons pe_int (pa_cons (pe_glob (v := .int 4) rfl eM ⟨_, rfl⟩) pa_nil)))))) (pss_one ps_never) pss_nil)
      (pss_cons (ps_fld (pv 0) (pv 2) rfl)
      (pss_cons (ps_fld (pv 0) (pe_op op_cat (pe_callTy (call_list_txt rfl) (by rfl) T.list (by decide +kernel) (pa_cons (pv 4) pa_nil)) (pe_lst (pa_cons pe_str pa_nil))) rfl)
      (pss_cons (ps_fld (pv 0) (pe_listRg rfl (by rfl) T.list (prg_1 (by rfl) T.range (pe_callB call_len_seq (by rfl) T.len PySem.boot_len (pa_cons (pe_fld (pv 0) rfl) pa_nil)))) rfl)
      (pss_cons (ps_fld (pv 0) (pe_op op_rep (pe_lst (pa_cons pe_bl pa_nil)) (pe_callB call_len_seq (by rfl) T.len PySem.boot_len (pa_cons (pe_fld (pv 0) rfl) pa_nil))) rfl)
      (pss_cons (ps_fld (pv 0) (pe_lst pa_nil) rfl)
      (pss_cons (ps_fld (pv 0) (pe_op op_rep (pe_lst (pa_cons pe_int pa_nil)) (pv 3)) rfl)
      (pss_one (ps_fld (pv 0) (pe_lc (own := [("hand", 5)]) (g := gName 5) (tt := tYes) rfl nd (pi_range1 (by rfl) T.range (pa_cons (pv 3) pa_nil)) (blkOk_by (own := [("hand", 5)]) (N := nmTInit) (sc := defScope (mth nTable 0)) (by decide +kernel))
        (fun _ _ _ _ _ => pg_name (i := 5) nd rfl (Or.inl rfl)) (fun _ _ _ _ _ => pts_nil) (fun _ _ _ _ _ => pe_lst pa_nil)) rfl)))))))))), ?_⟩
    have zl := pageT_len hO
    have szl : (9000 : Nat) < sizeLine := by decide
    refine ⟨_, rfl, p, as, rows, rfl, hT, hP, hO, fun H1 x1 => ⟨_, rfl, st, gap, least, rfl, ⟨x1.sqT hS.tup, hS.g0, hS.g1, hS.l0, hS.l1⟩, ?_⟩⟩
    generalize hz : pageT rows = z at k zl ⊢
    have hob1 : H1 tb = some (.ins B dx []) := x1.ext _ _ hob fun ps q => by cases q
    refine ⟨_, rfl, _, _, _, rfl, true, by rw [decide_eq_true ⟨by omega, by omega⟩], iteF ?_⟩
    have A1 : TStp B H1 tb dx [] H1 := ⟨hob1, fun c o h _ => h, fun b hb => hb⟩
    have l0 : ((sgS z).length : Nat) = z.length := by unfold sgS; rw [List.length_map, Array.length_toList]; rfl
    -- style
    refine ⟨_, rfl, _, rfl, tb, B, dx, _, rfl, hob1, X.cls, X.nStyle, by show 0 < 1000; decide, ?_⟩
    have A2 := A1.put (fs' := putF "style" (.ref st) [])
    generalize upd H1 tb (.ins B dx (putF "style" (.ref st) [])) = H2 at A2 ⊢
    -- signs
    refine ⟨_, rfl, z, rfl, by omega, fun q1 nq1 => ⟨by show 1 ≤ sizeLine; decide, fun q2 nq2 => ?_⟩⟩
    have A3 := (A2.new (x := .lst (sV (sgS z))) nq1).new (x := .lst [V.str ""]) nq2
    have hq1 := same_new (o := .lst [V.str ""]) nq2 _ _ (upd_same (H := H2) (a := q1) (o := .lst (sV (sgS z))))
    have hq2 : upd (upd H2 q1 (.lst (sV (sgS z)))) q2 (.lst [V.str ""]) q2 = some (.lst [V.str ""]) := upd_same
    show rCat _ _ (upd (upd H2 q1 (.lst (sV (sgS z)))) q2 (.lst [V.str ""])) _
    generalize upd (upd H2 q1 (.lst (sV (sgS z)))) q2 (.lst [V.str ""]) = H3 at A3 hq1 hq2 ⊢
    have sl : (sV (sgS z)).length = z.length := by unfold sV; rw [List.length_map, l0]
    refine ⟨q1, q2, _, _, rfl, rfl, hq1, hq2, by rw [sl]; show z.length + 1 ≤ sizeLine; omega, fun sg nsg => ?_⟩
    have es : sV (sgS z) ++ [V.str ""] = sV (sgS z ++ [("" : Str)]) := by unfold sV; rw [List.map_append]; rfl
    rw [es]
    have A4 := A3.new (x := .lst (sV (sgS z ++ [("" : Str)]))) nsg
    refine ⟨_, rfl, tb, B, dx, _, rfl, A4.ob, X.cls, X.nSigns, by show 1 < 1000; decide, ?_⟩
    have hsg4 : upd H3 sg (.lst (sV (sgS z ++ [("" : Str)]))) sg = some (.lst (sV (sgS z ++ [("" : Str)]))) := upd_same
    have osg := A3.old sg nsg
    generalize upd H3 sg (.lst (sV (sgS z ++ [("" : Str)]))) = H4 at A4 hsg4 ⊢
    have A5 := A4.put (fs' := putF "signs" (.ref sg) (putF "style" (.ref st) []))
    have hsg5 : upd H4 tb (.ins B dx (putF "signs" (.ref sg) (putF "style" (.ref st) []))) sg = some (.lst (sV (sgS z ++ [("" : Str)]))) := by rw [upd_ne (A4.lst hsg4)]; exact hsg4
    generalize upd H4 tb (.ins B dx (putF "signs" (.ref sg) (putF "style" (.ref st) []))) = H5 at A5 hsg5 ⊢
    clear A1 A2 A3 A4 hq1 hq2 hsg4
    have sl1 : (sV (sgS z ++ [("" : Str)])).length = z.length + 1 := by unfold sV; rw [List.length_map, List.length_append, l0]; rfl
    -- order
    refine ⟨_, rfl, tb, B, dx, _, _, rfl, A5.ob, X.cls, X.nSigns, rfl, sg, _, rfl, .inl (SqL.of hsg5), _, rfl, ?_, fun od nod => ?_⟩
    · rw [sl1]
      exact ⟨by omega, by omega, by omega, by omega, by omega⟩
    have eo : rgV 0 (((sV (sgS z ++ [("" : Str)])).length : Nat) : Int) = nV (List.range (z.length + 1)) := by
      rw [sl1]
      unfold rgV nV
      have : ((((z.length + 1 : Nat) : Int)) - 0).toNat = z.length + 1 := by omega
      rw [this]
      refine List.map_congr_left fun i _ => ?_
      rw [Int.zero_add]
    rw [eo]
    have A6 := A5.new (x := .lst (nV (List.range (z.length + 1)))) nod
    refine ⟨_, rfl, tb, B, dx, _, rfl, A6.ob, X.cls, X.nOrder, by show 2 < 1000; decide, ?_⟩
    have ood := A5.old od nod
    have hod6 : upd H5 od (.lst (nV (List.range (z.length + 1)))) od = some (.lst (nV (List.range (z.length + 1)))) := upd_same
    have hsg6 := same_new (o := .lst (nV (List.range (z.length + 1)))) nod _ _ hsg5
    generalize upd H5 od (.lst (nV (List.range (z.length + 1)))) = H6 at A6 hod6 hsg6 ⊢
    have A7 := A6.put (fs' := putF "order" (.ref od) (putF "signs" (.ref sg) (putF "style" (.ref st) [])))
    have pk : ∀ {c : Addr} {xs : List V}, H6 c = some (.lst xs) → upd H6 tb (.ins B dx (putF "order" (.ref od) (putF "signs" (.ref sg) (putF "style" (.ref st) [])))) c = some (.lst xs) := fun h => by rw [upd_ne (A6.lst h)]; exact h
    have hod7 := pk hod6
    have hsg7 := pk hsg6
    generalize upd H6 tb (.ins B dx (putF "order" (.ref od) (putF "signs" (.ref sg) (putF "style" (.ref st) [])))) = H7 at A7 hod7 hsg7 ⊢
    clear pk A5 A6 hod6 hsg6 hsg5
    -- there
    refine ⟨by show 1 ≤ sizeLine; decide, fun q3 nq3 => ⟨_, rfl, tb, B, dx, _, _, rfl, (A7.new nq3).ob, X.cls, X.nSigns, rfl, sg, _, rfl, .inl (SqL.of (same_new nq3 _ _ hsg7)), q3, _, _, rfl, rfl, upd_same, by omega, by rw [sl1]; omega, by rw [sl1]; show 1 * (((z.length + 1 : Nat) : Int)).toNat ≤ sizeLine; omega, fun th nth => ?_⟩⟩
    have et : (List.replicate (((sV (sgS z ++ [("" : Str)])).length : Nat) : Int).toNat [V.bl true]).flatten = bV (List.replicate (z.length + 1) true) := by
      rw [sl1]
      simp [bV]
    rw [et]
    have A8 := (A7.new (x := .lst [V.bl true]) nq3).new (x := .lst (bV (List.replicate (z.length + 1) true))) nth
    have ss8 : Same H7 (upd (upd H7 q3 (.lst [V.bl true])) th (.lst (bV (List.replicate (z.length + 1) true)))) := same_trans (same_new nq3) (same_new nth)
    have hth8 : upd (upd H7 q3 (.lst [V.bl true])) th (.lst (bV (List.replicate (z.length + 1) true))) th = some (.lst (bV (List.replicate (z.length + 1) true))) := upd_same
    have oth := A7.old th (same_old (same_new nq3) nth)
    refine ⟨_, rfl, tb, B, dx, _, rfl, A8.ob, X.cls, X.nThere, by show 3 < 1000; decide, ?_⟩
    have hod8 := ss8 _ _ hod7
    have hsg8 := ss8 _ _ hsg7
    generalize upd (upd H7 q3 (.lst [V.bl true])) th (.lst (bV (List.replicate (z.length + 1) true))) = H8 at A8 hth8 hod8 hsg8 ⊢
    have A9 := A8.put (fs' := putF "there" (.ref th) (putF "order" (.ref od) (putF "signs" (.ref sg) (putF "style" (.ref st) []))))
    have pk : ∀ {c : Addr} {xs : List V}, H8 c = some (.lst xs) → upd H8 tb (.ins B dx (putF "there" (.ref th) (putF "order" (.ref od) (putF "signs" (.ref sg) (putF "style" (.ref st) []))))) c = some (.lst xs) := fun h => by rw [upd_ne (A8.lst h)]; exact h
    have hod9 := pk hod8
    have hsg9 := pk hsg8
    have hth9 := pk hth8
    generalize upd H8 tb (.ins B dx (putF "there" (.ref th) (putF "order" (.ref od) (putF "signs" (.ref sg) (putF "style" (.ref st) []))))) = H9 at A9 hod9 hsg9 hth9 ⊢
    clear pk A7 A8 ss8 hod8 hsg8 hth8 hod7 hsg7
    -- deeds
    refine ⟨small0, fun dl ndl => ?_⟩
    have A10 := A9.new (x := .lst []) ndl
    have odl := A9.old dl ndl
    have hdl10 : upd H9 dl (.lst []) dl = some (.lst (([] : List Addr).map V.ref)) := upd_same
    have hod10 := same_new (o := .lst []) ndl _ _ hod9
    have hsg10 := same_new (o := .lst []) ndl _ _ hsg9
    have hth10 := same_new (o := .lst []) ndl _ _ hth9
    refine ⟨_, rfl, tb, B, dx, _, rfl, A10.ob, X.cls, X.nDeeds, by show 4 < 1000; decide, ?_⟩
    generalize upd H9 dl (.lst []) = H10 at A10 hdl10 hod10 hsg10 hth10 ⊢
    have A11 := A10.put (fs' := putF "deeds" (.ref dl) (putF "there" (.ref th) (putF "order" (.ref od) (putF "signs" (.ref sg) (putF "style" (.ref st) [])))))
    have pk : ∀ {c : Addr} {xs : List V}, H10 c = some (.lst xs) → upd H10 tb (.ins B dx (putF "deeds" (.ref dl) (putF "there" (.ref th) (putF "order" (.ref od) (putF "signs" (.ref sg) (putF "style" (.ref st) [])))))) c = some (.lst xs) := fun h => by rw [upd_ne (A10.lst h)]; exact h
    have hod11 := pk hod10
    have hsg11 := pk hsg10
    have hth11 := pk hth10
    have hdl11 := pk hdl10
    generalize upd H10 tb (.ins B dx (putF "deeds" (.ref dl) (putF "there" (.ref th) (putF "order" (.ref od) (putF "signs" (.ref sg) (putF "style" (.ref st) [])))))) = H11 at A11 hod11 hsg11 hth11 hdl11 ⊢
    clear pk A9 A10 hod10 hsg10 hth10 hdl10 hod9 hsg9 hth9
    -- spots
    refine ⟨by show 1 ≤ sizeLine; decide, fun q4 nq4 => ⟨_, rfl, q4, _, _, rfl, rfl, upd_same, by omega, by omega, by show 1 * (((n : Nat) : Int)).toNat ≤ sizeLine; omega, fun sp nsp => ?_⟩⟩
    have ep : (List.replicate (((n : Nat) : Int)).toNat [V.int 0]).flatten = nV (List.replicate n 0) := by simp [nV]
    rw [ep]
    have A12 := (A11.new (x := .lst [V.int 0]) nq4).new (x := .lst (nV (List.replicate n 0))) nsp
    have ss12 : Same H11 (upd (upd H11 q4 (.lst [V.int 0])) sp (.lst (nV (List.replicate n 0)))) := same_trans (same_new nq4) (same_new nsp)
    have hsp12 : upd (upd H11 q4 (.lst [V.int 0])) sp (.lst (nV (List.replicate n 0))) sp = some (.lst (nV (List.replicate n 0))) := upd_same
    have nsp11 : H11 sp = none := same_old (same_new nq4) nsp
    have osp := A11.old sp nsp11
    have spn : ∀ {c : Addr} {o : HO}, H11 c = some o → sp ≠ c := fun h e => by rw [← e, nsp11] at h; cases h
    have dsp : sp ≠ sg ∧ sp ≠ od ∧ sp ≠ th ∧ sp ≠ dl := ⟨spn hsg11, spn hod11, spn hth11, spn hdl11⟩
    refine ⟨_, rfl, tb, B, dx, _, rfl, A12.ob, X.cls, X.nSpots, by show 5 < 1000; decide, ?_⟩
    have hod12 := ss12 _ _ hod11
    have hsg12 := ss12 _ _ hsg11
    have hth12 := ss12 _ _ hth11
    have hdl12 := ss12 _ _ hdl11
    generalize upd (upd H11 q4 (.lst [V.int 0])) sp (.lst (nV (List.replicate n 0))) = H12 at A12 hsp12 hod12 hsg12 hth12 hdl12 ⊢
    have A13 := A12.put (fs' := putF "spots" (.ref sp) (putF "deeds" (.ref dl) (putF "there" (.ref th) (putF "order" (.ref od) (putF "signs" (.ref sg) (putF "style" (.ref st) []))))))
    have pk : ∀ {c : Addr} {xs : List V}, H12 c = some (.lst xs) → upd H12 tb (.ins B dx (putF "spots" (.ref sp) (putF "deeds" (.ref dl) (putF "there" (.ref th) (putF "order" (.ref od) (putF "signs" (.ref sg) (putF "style" (.ref st) []))))))) c = some (.lst xs) := fun h => by rw [upd_ne (A12.lst h)]; exact h
    have hod13 := pk hod12
    have hsg13 := pk hsg12
    have hth13 := pk hth12
    have hdl13 := pk hdl12
    have hsp13 := pk hsp12
    generalize upd H12 tb (.ins B dx (putF "spots" (.ref sp) (putF "deeds" (.ref dl) (putF "there" (.ref th) (putF "order" (.ref od) (putF "signs" (.ref sg) (putF "style" (.ref st) []))))))) = H13 at A13 hod13 hsg13 hth13 hdl13 hsp13 ⊢
    clear pk A11 A12 ss12 hod12 hsg12 hth12 hdl12 hsp12 hod11 hsg11 hth11 hdl11 spn nsp11
    -- undone
    refine ⟨_, rfl, _, rfl, by omega, by omega, fun D nD => ?_⟩
    refine lc_range (n := n) (fun i H' => Same H13 H' ∧ ∃ ua : List Addr, H' D = some (.lst (ua.map V.ref)) ∧ ua.length = i ∧ ua.Nodup ∧ ∀ u ∈ ua, H' u = some (.lst []) ∧ H13 u = none ∧ u ≠ D) ⟨same_new nD, [], upd_same, rfl, List.nodup_nil, fun u hu => by cases hu⟩ ?_ ?_
    · rintro i H' hi ⟨x, ua, w1, w2, w3, w4⟩
      refine ⟨rfl, small0, fun u nu => ?_⟩
      have nuD : u ≠ D := fun e => by rw [e, w1] at nu; cases nu
      have nu13 := same_old x nu
      have y := same_new (o := .lst []) nu
      refine ⟨_, y _ _ w1, by rw [List.length_map]; omega, same_upd (same_trans x y) nD, ua ++ [u], by rw [upd_same, List.map_append]; rfl, by rw [List.length_append, w2]; rfl, ?_, fun v hv => ?_⟩
      · rw [List.nodup_append]
        refine ⟨w3, by simp, fun a ha b hb => ?_⟩
        rw [List.mem_singleton] at hb
        rw [hb]
        exact fun e => by have := (w4 a ha).1; rw [e, nu] at this; cases this
      · rcases List.mem_append.mp hv with h | h
        · obtain ⟨a1, a2, a3⟩ := w4 v h
          exact ⟨by rw [upd_ne a3]; exact y _ _ a1, a2, a3⟩
        · rw [List.mem_singleton] at h
          subst h
          exact ⟨by rw [upd_ne nuD, upd_same], nu13, nuD⟩
    · rintro H14 ⟨x, ua, w1, w2, w3, w4⟩
      have A14 : TStp B H1 tb dx _ H14 := ⟨x _ _ A13.ob, fun c o h m => x _ _ (A13.kp c o h m), fun b hb => A13.old b (same_old x hb)⟩
      refine ⟨_, rfl, tb, B, dx, _, rfl, A14.ob, X.cls, X.nUndone, by show 6 < 1000; decide, ?_⟩
      have A15 := A14.put (fs' := putF "undone" (.ref D) (putF "spots" (.ref sp) (putF "deeds" (.ref dl) (putF "there" (.ref th) (putF "order" (.ref od) (putF "signs" (.ref sg) (putF "style" (.ref st) [])))))))
      have pk : ∀ {c : Addr} {xs : List V}, H14 c = some (.lst xs) → upd H14 tb (.ins B dx (putF "undone" (.ref D) (putF "spots" (.ref sp) (putF "deeds" (.ref dl) (putF "there" (.ref th) (putF "order" (.ref od) (putF "signs" (.ref sg) (putF "style" (.ref st) [])))))))) c = some (.lst xs) := fun h => by rw [upd_ne (A14.lst h)]; exact h
      have hod := pk (x _ _ hod13)
      have hsg := pk (x _ _ hsg13)
      have hth := pk (x _ _ hth13)
      have hdl := pk (x _ _ hdl13)
      have hsp := pk (x _ _ hsp13)
      have hD := pk w1
      have hua : ∀ u ∈ ua, _ := fun u hu => pk (w4 u hu).1
      generalize upd H14 tb (.ins B dx (putF "undone" (.ref D) (putF "spots" (.ref sp) (putF "deeds" (.ref dl) (putF "there" (.ref th) (putF "order" (.ref od) (putF "signs" (.ref sg) (putF "style" (.ref st) [])))))))) = H15 at A15 hod hsg hth hdl hsp hD hua ⊢
      have nn : ∀ {c d : Addr} {o : HO}, H13 d = none → H13 c = some o → d ≠ c := fun h1 h2 e => by rw [e, h2] at h1; cases h1
      have on : ∀ {b : Addr}, H13 b = none → H b = none := fun h => x1.old _ (A13.old _ h)
      refine k ⟨dx, st, sg, od, th, dl, sp, D, [], ua⟩ H15 (fun c o h m n => A15.kp c o (x1.any h m) n) (fun c hc => ?_) ?_ (fun b hb => x1.old b (A15.old b hb)) ⟨A15.ob, hsg, hod, hth, ⟨hdl, rfl, fun i t d h _ => by cases h⟩, hsp, hD, ?_, fun i u l h1 h2 => ?_, ?_, fun c hc => ?_⟩
      · rcases hc with e | e | e | e | e | e | e | e
        · exact .inl e
        · exact .inr (e ▸ x1.old _ osg)
        · exact .inr (e ▸ x1.old _ ood)
        · exact .inr (e ▸ x1.old _ oth)
        · exact .inr (e ▸ x1.old _ odl)
        · exact .inr (e ▸ x1.old _ osp)
        · exact .inr (e ▸ on nD)
        · exact .inr (on (w4 c e).2.1)
      · intro q hq
        obtain ⟨ps', h1, h2⟩ := x1.tab q hq
        exact ⟨ps', A15.kp _ _ h1 (fun e => by rw [e, hob1] at h1; cases h1), h2⟩
      · show ua.length = (List.replicate n ([] : List Nat)).length
        rw [w2, List.length_replicate]
      · have h2 : (List.replicate n ([] : List Nat))[i]? = some l := h2
        have : l = [] := by
          rw [List.getElem?_replicate] at h2
          split at h2
          · cases h2; rfl
          · cases h2
        rw [this]
        exact hua u (List.mem_of_getElem? h1)
      · show (sp :: D :: ua).Nodup
        rw [List.nodup_cons, List.mem_cons, List.nodup_cons]
        refine ⟨fun e => ?_, fun e => (w4 D e).2.2 rfl, w3⟩
        rcases e with e | e
        · exact nn nD hsp13 e.symm
        · exact nn (w4 sp e).2.1 hsp13 rfl
      · have hc : c ∈ sp :: D :: ua := hc
        have g : H13 c = none → c ≠ sg ∧ c ≠ od ∧ c ≠ th ∧ c ≠ dl := fun h => ⟨nn h hsg13, nn h hod13, nn h hth13, nn h hdl13⟩
        rcases List.mem_cons.mp hc with e | e
        · rw [e]; exact dsp
        · rcases List.mem_cons.mp e with e | e
          · exact g (by rw [e]; exact nD)
          · exact g (w4 c e).2.1
end
end TG

namespace TG
open PySem PySem.Spec PyProof.Rows L2 NdefX GenW Gx Lv
/-! ### list.count, flat items -/
theorem cntU {y : V} : ∀ {ys : List V} {its : List Value}, Vals ys its → ys.all flatV = true → its.countP (eqU y) = ys.countP (fun z => eqV z y)
  | [], _, .nil, _ => rfl
  | z :: ys, _, .cons r t, f => by
    rw [List.all_cons, Bool.and_eq_true] at f
    rw [List.countP_cons, List.countP_cons, eqU_of r f.1, cntU t f.2]
def rCnt (K : PySem.W.Frag) : V → List V → Hp → VK → Prop := fun x xs H Q => ∃ (a : Addr) (ys : List V) (y : V), x = .ref a ∧ xs = [y] ∧ SqL K H a ys ∧ flatV y = true ∧ ys.all flatV = true ∧ Q (.int (ys.countP (fun z => eqV z y) : Nat)) H
theorem mt_cnt {X : Cx} : MtR X "list.count" (rCnt X.K) := by
  intro pins s σ H x xs v us Q I rx rxs h
  obtain ⟨a, ys, y, rfl, rfl, hs, fy, fys, q⟩ := h
  cases rx
  obtain ⟨u, rfl, ru⟩ := rxs.one
  obtain ⟨its, rv, ⟨⟨cls, dd, data, sl⟩, n, ho, hc, hdn, hd⟩, hlen⟩ := I.list hs
  simp only at hc hd
  subst hc hd
  have ec : its.toArray.toList.countP (eqU y) = ys.countP (fun z => eqV z y) := cntU rv fys
  refine call_meets PySem.F.slot_list_count ⟨_, ho, rfl⟩ PySem.F.entry_list_count (PySem.F.args_list_count_2 _ _) (SeqAt.list_countAt a its.toArray n dd sl u (eqU y)) ⟨ho, fun w hw => mem_eqAt ru fy rv fys w (by simpa using hw), ?_⟩
  refine ⟨.int (ys.countP (fun z => eqV z y) : Nat), H, I.tok _, ⟨s.toks, ?_⟩, q⟩
  rw [← ec]
/-! ### isinstance and fields of a caught error -/
/-- its dict, if it has one, is told of -/
def XdAt (H : Hp) (d : Option Addr) : Prop := d = none ∨ ∃ dd fs, d = some dd ∧ H dd = some (.xd fs)
def rIsX (K : PySem.W.Frag) (cls : Value) (d : Option Addr) (a : Addr) : List V → Hp → VK → Prop := fun xs H Q => ∃ (c : V) (cv : Value) (b : Bool) (D : Addr), xs = [.ref a, c] ∧ cls = .ref D ∧ ExcC K D ∧ (∀ u, RelV c u → u = cv) ∧ PySem.W.kitOne K (.ref D) cv = some b ∧ XdAt H d ∧ Q (.bl b) H
theorem isCls_of {K : PySem.W.Frag} {D : Addr} (h : PySem.W.hasDictIn K D = true) : (PySem.W.clsIn K D).isSome = true := by
  obtain ⟨cd, hc, _⟩ := PySem.W.any_some h
  rw [hc]
  rfl
section
variable {X : Cx} {a : Addr} {oe : Obj} {cls : Value} {d : Option Addr} {pn : List (Addr × Obj)}
theorem call_isX (hz : Zc cls d oe) (hf : ∃ vs, oe.data = .fields vs) : CallR (X.suite a ((a, oe) :: pn)) (.builtin "isinstance") (rIsX X.K cls d a) := by
  intro pins s σ H xs us Q I r h
  obtain ⟨c, cv, b, D, rfl, rfl, C, hcv, e, hd, q⟩ := h
  cases r with
  | cons rx rr =>
    cases rr with
    | cons rt rr =>
      cases rr
      cases rx
      have ec := hcv _ rt
      subst ec
      obtain ⟨hget, _⟩ := I.pin (a, oe) (List.mem_append.mpr (.inl List.mem_cons_self))
      obtain ⟨vs, hv⟩ := hf
      have nc : PySem.W.notCls oe = true := by
        unfold PySem.W.notCls
        rw [hv] <;> rfl
      have fin : ∀ tk, EP (X.suite a ((a, oe) :: pn)) pins σ Q (.bool b) { s with toks := tk } := fun tk => ⟨.bl b, H, I.kept (t' := tk) fun _ _ z => z, rfl, q⟩
      rcases hd with rfl | ⟨dd, fs, rfl, hdd⟩
      · have J : PySem.W.InstAt s.heap a oe D none := by
          obtain ⟨h1, h2⟩ := hz
          refine ⟨hget, h1, nc, ?_⟩
          rw [h2]
          trivial
        exact PySem.W.kia_one (PySem.W.kitx_exc (isCls_of C.hd) C.hg C.hk C.hs C.ha C.hn C.ht C.hm) I.kIn J e (fun z => nomatch z) fin
      · have hx : ObjOk X.prog X.w H s.heap dd (.xd fs) := I.hok dd _ hdd
        obtain ⟨mA, hns, _⟩ := hx
        obtain ⟨od, ho, _⟩ := lookIn_ns hns
        have J : PySem.W.InstAt s.heap a oe D (some od) := ⟨hget, hz.1, nc, by rw [hz.2]; exact ho⟩
        exact PySem.W.kia_one (PySem.W.kitx_exc (isCls_of C.hd) C.hg C.hk C.hs C.ha C.hn C.ht C.hm) I.kIn J e (fun z => nomatch z) fin
def tXfX (K : PySem.W.Frag) (a : Addr) (cls : Value) (d : Option Addr) (f : Str) (te : TE) : TE := fun σ H Q => ∃ C : Addr, XfC K C ∧ PySem.W.findIn K (.ref C) f = some none ∧ tXf a cls d C f te σ H Q
theorem pe_xfX {e : Expr} {te : TE} {pos : Pos} {n : Str} (hz : Zc cls d oe) (hf : ∃ vs, oe.data = .fields vs) (he : PE (X.suite a ((a, oe) :: pn)) e te) (hb : attributeBase e n X.env (eval e X.env) = eval e X.env := by rfl) :
    PE (X.suite a ((a, oe) :: pn)) (.Attribute e n pos) (tXfX X.K a cls d n te) := by
  refine ⟨fun pins s σ H Q I h => ?_⟩
  obtain ⟨C, T, hno, h⟩ := h
  exact (pe_xf T hno hz hf he hb).run pins s σ H Q I h
end
/-! ### rules for an except suite, whose readings don't speak of the error's object -/
section
variable {X : Cx} {a : Addr} {l : List (Addr × Obj)}
theorem ix_listU : IxR (X.suite a l) (rIxL X.K) := ix_list
theorem op_inU : OpR (X.suite a l) (compareOp .In) (rIn X.K false) := op_in_seq
theorem mt_cntU : MtR (X.suite a l) "list.count" (rCnt X.K) := mt_cnt
theorem mt_indexU : MtR (X.suite a l) "list.index" (rIndex X.K) := mt_index
theorem pe_bmU {T name id : String} {r : V → List V → Hp → VK → Prop} {o e : Expr} {es : List Expr} {to : TE} {t : L2.TA} {apos cpos : Pos} (pa : PlainAttrs T) (slot : Slot T (name : Str) id) (hty : typeOf (.builtin id) = pure (.type "method_descriptor")) (hm : MtR (X.suite a l) id r)
    (ho : PE (X.suite a l) o to) (ha : PA (X.suite a l) (e :: es) t) (hbase : attributeBase o (name : Str) X.env (eval o X.env) = eval o X.env := by rfl)
    (hfew : ((backTo cpos (starEach (e :: es) X.env)).all (fun x => !x.1) && (backToKw cpos (keywordEach [] X.env)).all (fun x => x.1.isSome) && decide ((e :: es).length + ([] : List Keyword).length + (if ([] : List Keyword).isEmpty then 0 else 1) < 30)) = true := by rfl)
    (hline : (apos.endLine == cpos.line) = true := by rfl) (hs : starEach (e :: es) X.env = (false, eval e X.env) :: starEach es X.env := by rfl) (hplain : (backTo cpos (starEach es X.env)).any (·.1) = false := by rfl) :
    PE (X.suite a l) (.Call (.Attribute o (name : Str) apos) (e :: es) [] cpos) (tBM X.K T r to t) := pe_bm pa slot hty hm ho ha hbase hfew hline hs hplain
end
theorem xfC_of {K : PySem.W.Frag} {C : Addr} (h : ExcC K C) : XfC K C := ⟨h.hg, h.hk, h.hs, h.hd⟩
/-! ### a call by name of a lambda without parameters, in a try -/
def tCallX (P : Program) (w : World) (K : PySem.W.Frag) (mg : Str → Option Value) (base : Heap) (k i : Nat) (W : WX) : TE := fun σ H Q => ∃ (f : Addr) (F : NF) (e : Expr) (sp : Sp), σ[i]? = some (some (.ref f)) ∧ H f = some (FnL f F e) ∧ H F.c = some (LamX.CodeO F.c F.qual) ∧ LOkX P w K mg base k f F e sp ∧ sp [] H Q (WE W σ)
theorem pe_callX {X : Cx} {W : WX} {i k : Nat} {x : Str} {p pos : Pos} {P : Program} {w : World} {K : PySem.W.Frag} {mg : Str → Option Value} {base : Heap} (eX : X.prog = P ∧ X.w = w ∧ X.K = K ∧ X.mg = mg ∧ X.base = base) (hr : Room k X.A) (tk : Takes X W) (hN : X.N[i]? = some x) (hv : Vis X.env.scope x) (hd : (x == ("__debug__" : Str)) = false := by decide) (hcd : (x == ("__classdict__" : Str)) = false := by decide) :
    PE X (.Call (.Name x p) [] [] pos) (tCallX P w K mg base k i W) := by
  obtain ⟨rfl, rfl, rfl, rfl, rfl⟩ := eX
  refine ⟨fun pins s σ H Q I h => ?_⟩
  obtain ⟨f, F, b, sp, hs, hf, hc, L, q⟩ := h
  refine wpAny_Call_Name_kw (thn ((pe_var (pos := p) hN hv hd hcd).run pins s σ H (fun v H1 => v = .ref f ∧ H1 = H) I ⟨.ref f, hs, rfl, rfl⟩) fun u s1 ⟨v, H1, I1, r1, q1⟩ => ?_)
  obtain ⟨ev, eH⟩ := q1
  subst ev eH
  obtain rfl : u = Value.ref f := r1
  have at_ : PySem.W.FnAt f s1.heap := by
    obtain ⟨od, sl, pm, ctv, ho⟩ := fnL_at I1.hok hf
    exact ⟨_, od, _, sl, ho⟩
  refine PySem.W.callWith_F0 (first := []) at_ ?_
  refine wpAny_call (codeAny_mono (L.run X.A X.stack s1 H1 Q (WE W σ) hr I1.env0 hf hc q) fun r' s' hq => ?_)
  cases r' with
  | error er => exact passAt tk σ pins H1 s1 er s' I1 hq
  | ok fl =>
    cases fl with
    | ret u => exact I1.after hq
    | next => exact False.elim hq
    | brk => exact False.elim hq
    | cont => exact False.elim hq
end TG

namespace TG
open PySem PySem.Spec PyProof.Rows L2 NdefX GenW Gx Lv
/-! ### cells told of, and what a lambda caught -/
theorem caught_of {cells : List (Str × Addr)} {N names fr : List Str} {σ : L2.St} {cl : List (Addr × Obj)} {F : NF} {ws : List (Option V)} {H : Hp} (T : ToldC cells N names σ cl) (hF : F.cl = cloFrom cells F.scope.names [])
    (hfr : ∀ y, (y, NameKind.free) ∈ F.scope.names → y ∈ fr) (hrf : ∀ y ∈ fr, (y, NameKind.free) ∈ F.scope.names) (hsub : ∀ y ∈ fr, y ∈ names) (len : ws.length = fr.length) (told : ∀ c o, cl.lookup c = some o → H c = some (cellF o))
    (hw : ∀ (i : Nat) (y : Str) (v : V), fr[i]? = some y → ws[i]? = some (some v) → ∃ j : Nat, N[j]? = some y ∧ σ[j]? = some (some v)) : Caught F fr ws cl H := by
  have at_ : ∀ y c, F.cl.lookup y = some c → y ∈ fr ∧ ∃ o v, cells.lookup y = some c ∧ cl.lookup c = some o ∧ o.data = .cell v := fun y c e => by
    rw [hF] at e
    rcases cloFrom_mem (PySem.mem_of_lookup e) with z | ⟨z, hc⟩
    · cases z
    · have hy := hfr y z
      obtain ⟨c', o, v, e1, e2, e3⟩ := T.all y (hsub y hy)
      rw [e1] at hc
      have hc : c = c' := hc
      subst hc
      exact ⟨hy, o, v, e1, e2, e3⟩
  refine ⟨len, told, fun y c e => ?_, fun x y c e1 e2 => ?_, fun i y e => ?_⟩
  · obtain ⟨_, o, v, _, h2, h3⟩ := at_ y c e
    exact ⟨o, v, h2, h3⟩
  · obtain ⟨_, _, _, h1, _⟩ := at_ x c e1
    obtain ⟨_, _, _, h2, _⟩ := at_ y c e2
    exact T.inj x y c h1 h2
  · have hy : y ∈ fr := List.mem_of_getElem? e
    have hm := cloFrom_has (cells := cells) (acc := []) (hrf y hy)
    have hs : ∃ c, F.cl.lookup y = some c := by
      rw [hF]
      cases q : (cloFrom cells F.scope.names []).lookup y with
      | some c => exact ⟨c, rfl⟩
      | none =>
        have := List.lookup_eq_none_iff.mp q _ hm
        simp at this
    obtain ⟨c, hc⟩ := hs
    obtain ⟨_, o, v0, h1, h2, h3⟩ := at_ y c hc
    refine ⟨c, hc, fun v hv => ?_⟩
    obtain ⟨j, hj1, hj2⟩ := hw i y v e hv
    obtain ⟨u, e1, e2⟩ := T.val y (hsub y hy) c o h1 h2 j v hj1 hj2
    exact ⟨o, u, h2, e1, e2⟩
section
variable {cs : List (Addr × Addr)} {H H' : Hp} {cl : List (Addr × Obj)}
theorem add_at (un : ∀ c o, cl.lookup c = some o → H c = none) {b : Addr} {o : HO} (h : H b = some o) : addC H cl b = some o := by
  cases r : cl.lookup b with
  | some u => rw [un b u r] at h; cases h
  | none => rw [addC_out r]; exact h
theorem del_at (un : ∀ c o, cl.lookup c = some o → H c = none) {b : Addr} {o : HO} (h : H b = some o) : cl.lookup b = none := by
  cases r : cl.lookup b with
  | some u => rw [un b u r] at h; cases h
  | none => rfl
theorem add_none {D : Addr} (h : addC H cl D = none) : cl.lookup D = none ∧ H D = none := by
  cases r : cl.lookup D with
  | some u => rw [addC_in r] at h; cases h
  | none => rw [addC_out r] at h; exact ⟨rfl, h⟩
theorem del_upd_add (un : ∀ c o, cl.lookup c = some o → H c = none) {D : Addr} {o : HO} (hD : cl.lookup D = none) : delC (upd (addC H cl) D o) cl = upd H D o := by
  funext b
  cases r : cl.lookup b with
  | some u =>
    rw [delC_in r, upd_ne (fun z => by rw [z, hD] at r; cases r)]
    exact (un b u r).symm
  | none =>
    rw [delC_out r]
    by_cases hb : b = D
    · rw [hb, upd_same, upd_same]
    · rw [upd_ne hb, upd_ne hb, addC_out r]
theorem tabs_add (un : ∀ c o, cl.lookup c = some o → H c = none) (t : Tabs cs H) : Tabs cs (addC H cl) := fun p hp => by
  obtain ⟨ps, h1, h2⟩ := t p hp
  exact ⟨ps, add_at un h1, h2⟩
/-- what came of a heap with the cells told, the cells untold again -/
theorem ex_del (un : ∀ c o, cl.lookup c = some o → H c = none) (told : ∀ c o, cl.lookup c = some o → H' c = some (cellF o)) (x : Ex cs (addC H cl) H') : Ex cs H (delC H' cl) := by
  refine ⟨fun b o h n => ?_, fun p hp => ?_, fun b h => ?_, fun b o h n => ?_⟩
  · rw [delC_out (del_at un h)]
    exact x.ext b o (add_at un h) n
  · obtain ⟨ps, h1, h2⟩ := x.tab p hp
    have r : cl.lookup p.2 = none := by
      cases r : cl.lookup p.2 with
      | none => rfl
      | some u => rw [told _ u r] at h1; cases h1
    exact ⟨ps, by rw [delC_out r]; exact h1, h2⟩
  · cases r : cl.lookup b with
    | some u => exact un b u r
    | none =>
      rw [delC_out r] at h
      exact (add_none (x.old b h)).2
  · rw [delC_out (del_at un h)]
    exact x.oth b o (add_at un h) n
end
end TG

namespace TG
open PySem PySem.Spec PyProof.Rows L2 NdefX GenW Gx Lv
section
variable {P : Program} {w : World} {K : PySem.W.Frag} {mg : Str → Option Value} {base : Heap} {cs : List (Addr × Addr)} {B C G : Addr}
/-! ### _law_told, with two clauses -/
def spTold2 (P : Program) (w : World) (K : PySem.W.Frag) (mg : Str → Option Value) (base : Heap) (C : Addr) (kl : Nat) : Sp := fun vs H Q _ => ∃ (f : Addr) (F : NF) (e : Expr) (sp : Sp),
  vs = [.ref f] ∧ H f = some (FnL f F e) ∧ H F.c = some (LamX.CodeO F.c F.qual) ∧ LOkX P w K mg base kl f F e sp ∧
  ∀ (Z : VK) (E : XK), (∀ v H', Q v H' → Z v H') → (∀ H', Q (.str "none") H' → E (.ref C) none H') → sp [] H Z E
theorem sc_told2 : FnScope ["_law_work", "_law_found"] ["_law_work"] (defScope s_told) := ⟨rfl, rfl, rfl, by decide +kernel, rfl, by decide +kernel, by decide +kernel⟩
theorem ok_told2 {f : Addr} {fd : FuncData} {kl : Nat} (Er : ErrC K mg "BadCell" C G) (self : PySem.W.exmOne K (.ref C) (.ref C) = some true) (eG : mg "GrowError" = some (.ref G)) (F : Fun K "_law_told" "_law_told" s_told f fd) :
    FnOk P w K mg base CX0 (kl + 1) f fd ["_law_work"] (spTold2 P w K mg base C kl) := by
  refine F.ok sc_told2 (fun vs H Q E h => ?_) (fun cdv A outer s H vs Q E hr h => ?_)
  · obtain ⟨f, F, e, sp, rfl, _⟩ := h
    rfl
  · obtain ⟨fl, Fl, el, sp, rfl, hf, hc, L, k⟩ := h
    have nd := sc_told2.nd
    refine ⟨_, pss_cons (ps_set (i := 1) nd rfl (.inl rfl) pe_non)
      (pss_cons (ps_try_many rfl rfl takes0 (fun W pn xe tk _ => pss_one (ps_set (i := 1) nd rfl (.inl rfl) (pe_callX (P := P) (w := w) (K := K) (mg := mg) (base := base) (k := kl) (i := 0) ⟨rfl, rfl, rfl, rfl, rfl⟩ hr tk rfl (.inl rfl))))
        (.cons ⟨rfl, by decide, .inl Er.mg_⟩ (fun a oe cls d pn _ _ => pss_one (ps_set (i := 1) nd rfl (.inl rfl) pe_str))
          (.cons ⟨rfl, by decide, .inl eG⟩ (fun a oe cls d pn _ _ => pss_one (ps_set (i := 1) nd rfl (.inl rfl) pe_str)) .nil)))
      (pss_one (ps_ret (pv 1)))), ?_⟩
    exact ⟨fl, Fl, el, sp, rfl, hf, hc, L, k _ _ (fun v H' q => ⟨_, rfl, q⟩) fun H' q => ⟨true, self, fun _ a na => ⟨_, rfl, q⟩, fun z => nomatch z⟩⟩
end
end TG

namespace TG
open PySem PySem.Spec PyProof.Rows L2 NdefX GenW Gx Lv
/-! ### what the law keeps -/
abbrev Rub := Nat × Bool
def rV (r : Rub) : List V := [.int (r.1 : Nat), .bl r.2]
structure LT where
  td : Addr
  rl : Addr
  ul : Addr
  ra : List Addr
  ua : List Addr
structure LawT (H : Hp) (a : LT) (rs : List Rub) (us : List (List Nat)) : Prop where
  td : H a.td = some (.dK [(.inr "rubs", .ref a.rl), (.inr "undone", .ref a.ul)])
  rl : H a.rl = some (.lst (a.ra.map V.ref))
  ul : H a.ul = some (.lst (a.ua.map V.ref))
  rn : a.ra.length = rs.length
  un : a.ua.length = us.length
  ra : ∀ (i : Nat) (t : Addr) (r : Rub), a.ra[i]? = some t → rs[i]? = some r → H t = some (.lst (rV r))
  ua : ∀ (i : Nat) (t : Addr) (l : List Nat), a.ua[i]? = some t → us[i]? = some l → H t = some (.lst (nV l))
  nd : (a.rl :: a.ul :: (a.ra ++ a.ua)).Nodup
def ownL (a : LT) : Addr → Prop := fun c => c ∈ a.rl :: a.ul :: (a.ra ++ a.ua)
section
variable {H H' : Hp} {a : LT} {rs : List Rub} {us : List (List Nat)} {A : Addr → Prop}
theorem LawT.mob (o : LawT H a rs us) : Mob H (ownL a) := fun c hc => by
  rcases List.mem_cons.mp hc with e | e
  · exact .inl ⟨_, e ▸ o.rl⟩
  rcases List.mem_cons.mp e with e | e
  · exact .inl ⟨_, e ▸ o.ul⟩
  rcases List.mem_append.mp e with e | e
  · obtain ⟨i, hi⟩ := List.mem_iff_getElem?.mp e
    obtain ⟨r, hr⟩ := getP (xs := rs) (i := i) (by rw [← o.rn]; exact (List.getElem?_eq_some_iff.mp hi).1)
    exact .inl ⟨_, o.ra i c r hi hr⟩
  · obtain ⟨i, hi⟩ := List.mem_iff_getElem?.mp e
    obtain ⟨r, hr⟩ := getP (xs := us) (i := i) (by rw [← o.un]; exact (List.getElem?_eq_some_iff.mp hi).1)
    exact .inl ⟨_, o.ua i c r hi hr⟩
theorem LawT.km (o : LawT H a rs us) (x : KM A H H') (m : Mob H A) (n : ∀ c, ownL a c → ¬ A c) : LawT H' a rs us := by
  have f : ∀ {c : Addr} {xs : List V}, ownL a c → H c = some (.lst xs) → H' c = some (.lst xs) := fun {c xs} hc h => x _ _ h (fun ps z => by cases z) (n c hc)
  exact ⟨x _ _ o.td (fun ps z => by cases z) (fun z => by rcases m _ z with ⟨us, e⟩ | ⟨C, dx, fs, e⟩ <;> rw [o.td] at e <;> cases e),
    f (by unfold ownL; simp) o.rl, f (by unfold ownL; simp) o.ul, o.rn, o.un, fun i t r h1 h2 => f (by have := List.mem_of_getElem? h1; unfold ownL; simp [this]) (o.ra i t r h1 h2), fun i t l h1 h2 => f (by have := List.mem_of_getElem? h1; unfold ownL; simp [this]) (o.ua i t l h1 h2), o.nd⟩
theorem LawT.gw (o : LawT H a rs us) (x : LamX.ExtN H H') : LawT H' a rs us := o.km (A := fun _ => False) (KM.of x) (fun c h => h.elim) fun c _ h => h
theorem LawT.same (o : LawT H a rs us) (x : Same H H') : LawT H' a rs us := o.gw (same_extN x)
/-- one more rub -/
theorem LawT.more (o : LawT H a rs us) {t : Addr} {r : Rub} (ht : H t = some (.lst (rV r))) (nt : ¬ ownL a t) : LawT (upd H a.rl (.lst ((a.ra ++ [t]).map V.ref))) { a with ra := a.ra ++ [t] } (rs ++ [r]) us := by
  have nd := o.nd
  rw [List.nodup_cons] at nd
  have f : ∀ {c : Addr} {x : HO}, c ≠ a.rl → H c = some x → upd H a.rl (.lst ((a.ra ++ [t]).map V.ref)) c = some x := fun n h => by rw [upd_ne n]; exact h
  have ne : ∀ c, c ∈ a.ul :: (a.ra ++ a.ua) → c ≠ a.rl := fun c hc e => nd.1 (e ▸ hc)
  have nt' : t ≠ a.rl := fun e => nt (by unfold ownL; simp [e])
  refine ⟨f (fun e => by have := o.td; rw [e, o.rl] at this; cases this) o.td, upd_same, f (ne _ (by simp)) o.ul, by show (a.ra ++ [t]).length = _; rw [List.length_append, List.length_append, o.rn]; rfl, o.un, fun i q d h1 h2 => ?_, fun i q l h1 h2 => f (ne _ (by have := List.mem_of_getElem? h1; simp [this])) (o.ua i q l h1 h2), ?_⟩
  · have h1 : (a.ra ++ [t])[i]? = some q := h1
    by_cases c : i < rs.length
    · rw [List.getElem?_append_left c] at h2
      rw [List.getElem?_append_left (by rw [o.rn]; exact c)] at h1
      exact f (ne _ (by have := List.mem_of_getElem? h1; simp [this])) (o.ra i q d h1 h2)
    · rw [List.getElem?_append_right (by omega)] at h2
      rw [List.getElem?_append_right (by rw [o.rn]; omega), o.rn] at h1
      have z : i - rs.length = 0 := by have := (List.getElem?_eq_some_iff.mp h2).1; simp at this; omega
      rw [z] at h1 h2
      cases h1
      cases h2
      exact f nt' ht
  · show (a.rl :: a.ul :: ((a.ra ++ [t]) ++ a.ua)).Nodup
    have p : (a.rl :: a.ul :: ((a.ra ++ [t]) ++ a.ua)).Perm (t :: a.rl :: a.ul :: (a.ra ++ a.ua)) := by
      have p1 : ((a.ra ++ [t]) ++ a.ua).Perm (t :: (a.ra ++ a.ua)) := by
        rw [List.append_assoc]
        exact List.perm_middle
      exact ((p1.cons a.ul).trans (List.Perm.swap _ _ _)).cons a.rl |>.trans (List.Perm.swap _ _ _)
    exact p.nodup_iff.mpr (List.nodup_cons.mpr ⟨nt, o.nd⟩)
/-- a rub is written -/
theorem LawT.rub (o : LawT H a rs us) {k : Nat} {t : Addr} (hk : a.ra[k]? = some t) (r : Rub) : LawT (upd H t (.lst (rV r))) a (rs.set k r) us := by
  have lt := (List.getElem?_eq_some_iff.mp hk).1
  obtain ⟨r0, hr0⟩ := getP (xs := rs) (i := k) (by rw [← o.rn]; exact lt)
  have h0 := o.ra k t r0 hk hr0
  have mt : t ∈ a.ra := List.mem_of_getElem? hk
  have nd := o.nd
  rw [List.nodup_cons, List.nodup_cons, List.mem_cons, List.nodup_append] at nd
  have f : ∀ {c : Addr} {x : HO}, c ≠ t → H c = some x → upd H t (.lst (rV r)) c = some x := fun n h => by rw [upd_ne n]; exact h
  refine ⟨f (fun e => by have := o.td; rw [e, h0] at this; cases this) o.td, f (fun e => nd.1 (.inr (by rw [e]; simp [mt]))) o.rl, f (fun e => nd.2.1 (by rw [e]; simp [mt])) o.ul, by rw [List.length_set]; exact o.rn, o.un, fun i q d h1 h2 => ?_, fun i q l h1 h2 => f (fun e => nd.2.2.2.2 t mt q (List.mem_of_getElem? h1) e.symm) (o.ua i q l h1 h2), o.nd⟩
  by_cases e : i = k
  · subst e
    rw [hk] at h1
    cases h1
    rw [List.getElem?_set_self (by rw [← o.rn]; exact lt)] at h2
    cases h2
    exact upd_same
  · rw [List.getElem?_set_ne (fun z => e z.symm)] at h2
    refine f (fun z => ?_) (o.ra i q d h1 h2)
    subst z
    exact e (nodup_inj nd.2.2.1 h1 hk)
/-- a list is put in the place of one -/
theorem LawT.und (o : LawT H a rs us) {h : Nat} {n : Addr} {l : List Nat} (hn : H n = some (.lst (nV l))) (hh : h < us.length) (nn : ¬ ownL a n) : LawT (upd H a.ul (.lst ((a.ua.set h n).map V.ref))) { a with ua := a.ua.set h n } rs (us.set h l) := by
  have nd := o.nd
  rw [List.nodup_cons, List.nodup_cons, List.mem_cons, List.nodup_append] at nd
  have f : ∀ {c : Addr} {x : HO}, c ≠ a.ul → H c = some x → upd H a.ul (.lst ((a.ua.set h n).map V.ref)) c = some x := fun m h => by rw [upd_ne m]; exact h
  have nul : n ≠ a.ul := fun e => nn (by unfold ownL; simp [e])
  have hlt : h < a.ua.length := by rw [o.un]; exact hh
  have ms : ∀ c ∈ a.ua.set h n, c ∈ a.ua ∨ c = n := fun c hc => List.mem_or_eq_of_mem_set hc
  refine ⟨f (fun e => by have := o.td; rw [e, o.ul] at this; cases this) o.td, f (fun e => nd.1 (.inl e)) o.rl, upd_same, o.rn, by show (a.ua.set h n).length = _; rw [List.length_set, List.length_set]; exact o.un, fun i q d h1 h2 => f (fun e => nd.2.1 (by rw [← e]; have := List.mem_of_getElem? h1; simp [this])) (o.ra i q d h1 h2), fun i q m h1 h2 => ?_, ?_⟩
  · have h1 : (a.ua.set h n)[i]? = some q := h1
    by_cases e : i = h
    · subst e
      rw [List.getElem?_set_self hlt] at h1
      rw [List.getElem?_set_self hh] at h2
      cases h1
      cases h2
      exact f nul hn
    · rw [List.getElem?_set_ne (fun z => e z.symm)] at h1 h2
      exact f (fun z => nd.2.1 (by rw [← z]; have := List.mem_of_getElem? h1; simp [this])) (o.ua i q m h1 h2)
  · show (a.rl :: a.ul :: (a.ra ++ a.ua.set h n)).Nodup
    rw [List.nodup_cons, List.nodup_cons, List.mem_cons, List.nodup_append]
    have nn' : n ≠ a.rl ∧ n ∉ a.ra ∧ n ∉ a.ua := ⟨fun e => nn (by unfold ownL; simp [e]), fun e => nn (by unfold ownL; simp [e]), fun e => nn (by unfold ownL; simp [e])⟩
    refine ⟨fun z => ?_, fun z => ?_, nd.2.2.1, ?_, fun b hb c hc => ?_⟩
    · rcases z with z | z
      · exact nd.1 (.inl z)
      · rcases List.mem_append.mp z with z | z
        · exact nd.1 (.inr (by simp [z]))
        · rcases ms _ z with z | z
          · exact nd.1 (.inr (by simp [z]))
          · exact nn'.1 z.symm
    · rcases List.mem_append.mp z with z | z
      · exact nd.2.1 (by simp [z])
      · rcases ms _ z with z | z
        · exact nd.2.1 (by simp [z])
        · exact nul z.symm
    · have nu := nd.2.2.2.1
      rw [List.nodup_iff_pairwise_ne, List.pairwise_iff_getElem]
      intro i j hi hj hij
      rw [List.length_set] at hi hj
      rw [List.getElem_set, List.getElem_set]
      have ne : ∀ k (hk : k < a.ua.length), a.ua[k] ≠ n := fun k hk z => nn'.2.2 (z ▸ List.getElem_mem hk)
      by_cases c1 : h = i
      · rw [if_pos c1, if_neg (by omega)]
        exact (ne j hj).symm
      · rw [if_neg c1]
        by_cases c2 : h = j
        · rw [if_pos c2]
          exact ne i hi
        · rw [if_neg c2]
          exact fun z => by have := nodup_inj nu (List.getElem?_eq_getElem hi) ((List.getElem?_eq_getElem hj).trans (congrArg some z.symm)); omega
    · rcases ms _ hc with z | z
      · exact nd.2.2.2.2 b hb c z
      · exact fun e => nn'.2.1 (by rw [← z, ← e]; exact hb)
end
end TG

namespace TG
open PySem PySem.Spec PyProof.Rows L2 NdefX GenW Gx Lv
/-! ### _law_due -/
def r0 : Rub := (0, false)
def mineR (rs : List Rub) (h n : Nat) : List Nat := (List.range n).filter fun i => decide ((rs.getD i r0).1 = h) && (rs.getD i r0).2
theorem mineR_succ {rs : List Rub} {h i : Nat} {r : Rub} (hd : rs[i]? = some r) : mineR rs h (i + 1) = mineR rs h i ++ if (decide (r.1 = h) && r.2) = true then [i] else [] := by
  have e : rs.getD i r0 = r := by rw [List.getD_eq_getElem?_getD, hd]; rfl
  unfold mineR
  rw [List.range_succ, List.filter_append, List.filter_cons, List.filter_nil, e]
theorem mineR_len (rs : List Rub) (h n : Nat) : (mineR rs h n).length ≤ n := by
  unfold mineR
  have := List.length_filter_le (fun i => decide ((rs.getD i r0).1 = h) && (rs.getD i r0).2) (List.range n)
  rw [List.length_range] at this
  exact this
theorem mineR_lt {rs : List Rub} {h n m : Nat} (hm : m ∈ mineR rs h n) : m < n := List.mem_range.mp (List.mem_filter.mp hm).1
def rD (r : Rub) : PyData := .list [.int (r.1 : Nat), .bool r.2]
theorem can_rD : ∀ l : List Rub, PyData.canLayAll0 (l.map rD) = true
  | [] => rfl
  | r :: l => by
    rw [List.map_cons]
    show (PyData.canLay0 (rD r) && PyData.canLayAll0 (l.map rD)) = true
    rw [can_rD l]
    rfl
theorem dep_rD : ∀ l : List Rub, PyData.depthAll (l.map rD) ≤ 1
  | [] => Nat.zero_le _
  | r :: l => by
    have h := dep_rD l
    rw [List.map_cons]
    show max (PyData.depth (rD r)) (PyData.depthAll (l.map rD)) ≤ 1
    have : PyData.depth (rD r) = 1 := rfl
    omega
theorem shaped_rDs (l : List Rub) : SeqAt.shaped (.list (l.map rD)) = true := by
  unfold SeqAt.shaped
  have c : PyData.canLay0 (.list (l.map rD)) = true := can_rD l
  rw [c, Bool.true_and]
  refine decide_eq_true ?_
  have := dep_rD l
  simp only [PyData.depth]
  omega
theorem eqv_rD (r s : Rub) : PyData.eqv (rD r) (rD s) = (decide (r.1 = s.1) && decide (r.2 = s.2)) := by
  unfold rD
  simp only [PyData.eqv, PyData.eqvAll, Bool.and_true]
  by_cases h : r.1 = s.1
  · rw [h, decide_eq_true (rfl : s.1 = s.1), Bool.true_and]
    have : (((s.1 : Nat) : Int) == ((s.1 : Nat) : Int)) = true := by simp
    rw [this, Bool.true_and]
    cases r.2 <;> cases s.2 <;> rfl
  · have : (((r.1 : Nat) : Int) == ((s.1 : Nat) : Int)) = false := by simp; omega
    rw [this, decide_eq_false h, Bool.false_and, Bool.false_and]
def stands (rs : List Rub) : Bool := rs.any fun r => r.2
def wayR (rs : List Rub) (us : List (List Nat)) (h : Nat) (way : Str) : List Nat := if way = "back" then mineR rs h rs.length else us.getD h []
def dueR (rs : List Rub) (us : List (List Nat)) (h : Nat) (way : Str) : V × List Rub × List (List Nat) :=
  if way = "rub" then (if stands rs = true then (.str "none", rs, us) else (.non, rs ++ [(h, true)], us.set h []))
  else match (wayR rs us h way).getLast? with
    | none => (.bl false, rs, us)
    | some n => (.bl true, rs.set n ((rs.getD n r0).1, decide (way = "again")), us.set h (if way = "back" then us.getD h [] ++ [n] else (wayR rs us h way).dropLast))
theorem cut_lastV (l : List Nat) (h : l ≠ []) : cutV (nV l) none (some (-1)) = nV l.dropLast := by
  have lp : 0 < l.length := List.length_pos_iff.mpr h
  have e : HT.sIx (nV l).length (nV l).length (some (-1)) = l.length - 1 := by
    rw [nV_len]
    unfold HT.sIx
    simp only
    rw [if_pos (by decide)]
    omega
  unfold cutV
  rw [e, HT.sIx_none, List.drop_zero, Nat.sub_zero]
  unfold nV
  rw [← List.map_take, List.dropLast_eq_take]
section
variable {P : Program} {w : World} {K : PySem.W.Frag} {mg : Str → Option Value} {base : Heap} {cs : List (Addr × Addr)} {B C G : Addr}
def spDue (K : PySem.W.Frag) (cs : List (Addr × Addr)) : Sp := fun vs H Q _ => ∃ (a : LT) (rs : List Rub) (us : List (List Nat)) (h : Nat) (way : Str), vs = [.ref a.td, .int (h : Nat), .str way] ∧ Tabs cs H ∧ LawT H a rs us ∧ h < us.length ∧ rs.length ≤ 1000 ∧ (∀ l ∈ us, l.length ≤ 1000 ∧ ∀ n ∈ l, n < rs.length) ∧
  ∀ (a' : LT) (H' : Hp), a'.td = a.td → KN cs (ownL a) H H' → (∀ c, ownL a' c → ownL a c ∨ H c = none) → Tabs cs H' → (∀ b, H' b = none → H b = none) → LawT H' a' (dueR rs us h way).2.1 (dueR rs us h way).2.2 → Q (dueR rs us h way).1 H'
abbrev nmDue : List Str := ["_law_t", "_law_hand", "_law_way", "_law_mine", "_law_is_there", "_law_some", "_law_later", "_law_k", "_law_rub"]
theorem sc_due : FnScope nmDue ["_law_t", "_law_hand", "_law_way"] (defScope s_due) := ⟨rfl, rfl, rfl, by decide +kernel, rfl, by decide +kernel, by decide +kernel⟩
theorem str_way {a b : Str} : decide (V.str a = V.str b) = decide (a = b) := by simp
theorem getU {H : Hp} {a : LT} {rs : List Rub} {us : List (List Nat)} (o : LawT H a rs us) {h : Nat} (hh : h < us.length) : ∃ u l, (a.ua.map V.ref)[h]? = some (.ref u) ∧ a.ua[h]? = some u ∧ us[h]? = some l ∧ us.getD h [] = l ∧ H u = some (.lst (nV l)) := by
  obtain ⟨u, hu⟩ := getP (xs := a.ua) (i := h) (by rw [o.un]; exact hh)
  obtain ⟨l, hl⟩ := getP (xs := us) (i := h) hh
  exact ⟨u, l, by rw [List.getElem?_map, hu]; rfl, hu, hl, by rw [List.getD_eq_getElem?_getD, hl]; rfl, o.ua h u l hu hl⟩
theorem valR {x y : Addr} : valV [((.inr "rubs" : Key), V.ref x), (.inr "undone", V.ref y)] (.inr "rubs") = some (.ref x) := rfl
theorem valU {x y : Addr} : valV [((.inr "rubs" : Key), V.ref x), (.inr "undone", V.ref y)] (.inr "undone") = some (.ref y) := rfl
theorem LawT.getR {H : Hp} {a : LT} {rs : List Rub} {us : List (List Nat)} (o : LawT H a rs us) : DGet H a.td (.str "rubs") (some (.ref a.rl)) := .inl ⟨_, .inr "rubs", .inl o.td, rfl, valR.symm⟩
theorem LawT.getUn {H : Hp} {a : LT} {rs : List Rub} {us : List (List Nat)} (o : LawT H a rs us) : DGet H a.td (.str "undone") (some (.ref a.ul)) := .inl ⟨_, .inr "undone", .inl o.td, rfl, valU.symm⟩
theorem dp_nats {H : Hp} : ∀ l : List Nat, DpAll K H (nV l) (l.map fun n => PyData.int (n : Nat))
  | [] => .nil
  | n :: l => .cons (.int _) (dp_nats l)
theorem can_ns : ∀ l : List Nat, PyData.canLayAll0 (l.map fun n => PyData.int (n : Nat)) = true
  | [] => rfl
  | n :: l => by
    rw [List.map_cons]
    show (PyData.canLay0 (.int (n : Nat)) && PyData.canLayAll0 (l.map fun n => PyData.int (n : Nat))) = true
    rw [can_ns l]
    rfl
theorem dep_ns : ∀ l : List Nat, PyData.depthAll (l.map fun n => PyData.int (n : Nat)) ≤ 0
  | [] => Nat.zero_le _
  | n :: l => by
    have h := dep_ns l
    rw [List.map_cons]
    show max (PyData.depth (.int (n : Nat))) (PyData.depthAll (l.map fun n => PyData.int (n : Nat))) ≤ 0
    have : PyData.depth (.int ((n : Nat) : Int)) = 0 := rfl
    omega
theorem shaped_ns (l : List Nat) : SeqAt.shaped (.list (l.map fun n => PyData.int (n : Nat))) = true := by
  unfold SeqAt.shaped
  have c : PyData.canLay0 (.list (l.map fun n => PyData.int (n : Nat))) = true := can_ns l
  rw [c, Bool.true_and]
  refine decide_eq_true ?_
  have := dep_ns l
  simp only [PyData.depth]
  omega
theorem eqv_ns (l : List Nat) : PyData.eqv (.list (l.map fun n => PyData.int (n : Nat))) (.list []) = decide (l = []) := by
  cases l <;> rfl
theorem dp_app {H : Hp} : ∀ {xs ys : List V} {ds es : List PyData}, DpAll K H xs ds → DpAll K H ys es → DpAll K H (xs ++ ys) (ds ++ es)
  | _, _, _, _, .nil, h => h
  | _, _, _, _, .cons a b, h => .cons a (dp_app b h)
mutual
theorem dp_same1 {H H' : Hp} (x : Same H H') : ∀ {v : V} {d : PyData}, Dp K H v d → Dp K H' v d
  | _, _, .non => .non
  | _, _, .bl b => .bl b
  | _, _, .int i => .int i
  | _, _, .str z => .str z
  | _, _, .lst a b => .lst (same_sqL x a) (dp_all_same x b)
  | _, _, .tup a b => .tup (same_sqT x a) (dp_all_same x b)
theorem dp_all_same {H H' : Hp} (x : Same H H') : ∀ {vs : List V} {ds : List PyData}, DpAll K H vs ds → DpAll K H' vs ds
  | _, _, .nil => .nil
  | _, _, .cons a b => .cons (dp_same1 x a) (dp_all_same x b)
end
theorem ok_due {f : Addr} {fd : FuncData} (T : Txt mg) (F : Fun K "_law_due" "_law_due" s_due f fd) : FnOk P w K mg base CX0 1 f fd ["_law_t", "_law_hand", "_law_way"] (spDue K cs) := by
  refine F.ok sc_due (fun vs H Q E h => ?_) (fun cdv A outer s H vs Q E hr h => ?_)
  · obtain ⟨a, rs, us, h, way, rfl, _⟩ := h
    rfl
  · obtain ⟨a, rs, us, h, way, rfl, hT, o, hh, h1000, hu1000, k⟩ := h
    have nd := sc_due.nd
    have szl : (9000 : Nat) < sizeLine := by decide
    have hu := hr.units
    have hu1 : (A.deeper (envOfC "_law_due" (defScope s_due) s.heap.objs.size f cdv)).units + 1 < cLine := by omega
    refine ⟨_, pss_cons (ps_setLc (i := 3) (own := [("_law_k", 7)]) (g := gName 7) rfl nd rfl rfl (sw_true rfl rfl rfl (by decide +kernel)) (pi_range1 (by rfl) T.range (pa_cons (pe_callB call_len_seq (by rfl) T.len PySem.boot_len (pa_cons (pe_dget hu1 (pv 0) pe_str (fun _ _ => rfl)) pa_nil)) pa_nil)) (blkOk_by (own := [("_law_k", 7)]) (N := nmDue) (sc := defScope s_due) (by decide +kernel))
        (fun _ _ _ _ _ => pg_name (i := 7) nd rfl (Or.inl rfl)) (fun _ _ _ _ _ => pts_one (pt_cmpR (r := rEqD K) (op_eqD hu) (pe_ix (r := rIxL K) ix_list (pe_dget hu1 (pv 0) pe_str (fun _ _ => rfl)) (pv 7) (fun _ _ => rfl)) (pe_lst (pa_cons (pv 1) (pa_cons pe_bl pa_nil))) (nomark _))) (fun _ _ _ _ _ => pv 7))
      (pss_cons (ps_set (i := 4) nd rfl (.inl rfl) (pe_cmpR (op_eqD hu) (pe_lc (own := [("_law_rub", 8)]) (g := gName 8) rfl nd (pi_list (pe_dget hu1 (pv 0) pe_str (fun _ _ => rfl))) (blkOk_by (own := [("_law_rub", 8)]) (N := nmDue) (sc := defScope s_due) (by decide +kernel))
        (fun _ _ _ _ _ => pg_name (i := 8) nd rfl (Or.inl rfl)) (fun _ _ _ _ _ => pts_one (pt_val (pe_ix (r := rIxL K) ix_list (pv 8) pe_int (fun _ _ => rfl)))) (fun _ _ _ _ _ => pv 8)) (pe_lst pa_nil) (nomark _)))
      (pss_cons (ps_if (pt_cmpR op_eq (pv 2) pe_str (nomark _))
        (pss_cons (ps_if (pt_not (pt_val (pv 4))) (pss_one (ps_ret pe_str)) pss_nil)
        (pss_cons (ps_expr (pe_bm PySem.F.plainAttrs_list PySem.F.slot_list_append PySem.F.type_list_append mt_append (pe_dget hu1 (pv 0) pe_str (fun _ _ => rfl)) (pa_cons (pe_lst (pa_cons (pv 1) (pa_cons pe_bl pa_nil))) pa_nil)))
        (pss_cons (ps_asg (pe_lst pa_nil) (pg_sub (pe_dget hu1 (pv 0) pe_str (fun _ _ => rfl)) (pv 1) set_list)) (pss_one (ps_ret pe_non))))) pss_nil)
      (pss_cons (ps_set (i := 5) nd rfl (.inl rfl) (pe_ifExp (pt_cmpR op_eq (pv 2) pe_str (nomark _)) (pv 3) (pe_ix ix_list (pe_dget hu1 (pv 0) pe_str (fun _ _ => rfl)) (pv 1) (fun _ _ => rfl))))
      (pss_cons (ps_if (pt_cmpR (op_eqD hu) (pv 5) (pe_lst pa_nil) (nomark _)) (pss_one (ps_ret pe_bl)) pss_nil)
      (pss_cons (ps_asg (pe_cmpR op_eq (pv 2) pe_str (nomark _)) (pg_sub (pe_ix ix_list (pe_dget hu1 (pv 0) pe_str (fun _ _ => rfl)) (pe_ix ix_list (pv 5) (pe_un un_neg pe_int) (fun _ _ => rfl)) (fun _ _ => rfl)) pe_int set_list))
      (pss_cons (ps_set (i := 6) nd rfl (.inl rfl) (pe_slice sl_list (pv 5) po_none (po_some (pe_un un_neg pe_int))))
      (pss_cons (ps_if (pt_cmpR op_eq (pv 2) pe_str (nomark _)) (pss_one (ps_set (i := 6) nd rfl (.inl rfl) (pe_op op_cat (pe_ix ix_list (pe_dget hu1 (pv 0) pe_str (fun _ _ => rfl)) (pv 1) (fun _ _ => rfl)) (pe_lst (pa_cons (pe_ix ix_list (pv 5) (pe_un un_neg pe_int) (fun _ _ => rfl)) pa_nil))))) pss_nil)
      (pss_cons (ps_asg (pv 6) (pg_sub (pe_dget hu1 (pv 0) pe_str (fun _ _ => rfl)) (pv 1) set_list))
      (pss_one (ps_ret pe_bl)))))))))), ?_⟩
    have hl : (a.ra.map V.ref).length = rs.length := by rw [List.length_map]; exact o.rn
    refine ⟨_, rfl, a.td, _, rfl, o.getR, a.rl, _, rfl, .inl (SqL.of o.rl), _, rfl, by omega, by omega, fun D nD => ?_⟩
    have en : (((a.ra.map V.ref).length : Nat) : Int).toNat = rs.length := by omega
    rw [en]
    refine lc_range (n := rs.length) (fun i H' => Same H H' ∧ H' D = some (.lst (nV (mineR rs h i)))) ⟨same_new nD, upd_same⟩ ?_ ?_
    · rintro i H' hi ⟨x, hD⟩
      obtain ⟨r, hr⟩ := getP (xs := rs) (i := i) hi
      obtain ⟨t, ht⟩ := getP (xs := a.ra) (i := i) (by rw [o.rn]; exact hi)
      have o1 := o.same x
      have et : (a.ra.map V.ref)[i]? = some (.ref t) := by rw [List.getElem?_map, ht]; rfl
      have ei : (0 : Int) + (i : Nat) = (i : Nat) := Int.zero_add _
      refine ⟨rfl, _, rfl, a.td, _, rfl, o1.getR, _, rfl, a.rl, _, _, .ref t, rfl, rfl, SqL.of o1.rl, by rw [ei]; exact atI_nat et, _, rfl, by show 2 ≤ sizeLine; decide, fun p np => ?_⟩
      have y := same_new (o := .lst [.int (h : Nat), .bl true]) np
      refine ⟨rD r, rD (h, true), .lst (SqL.of (y _ _ (o1.ra i t r ht hr))) (.cons (.int _) (.cons (.bl _) .nil)), .lst (SqL.of upd_same) (.cons (.int _) (.cons (.bl _) .nil)), rfl, rfl, _, rfl, ?_⟩
      rw [eqv_rD, mineR_succ hr]
      have e2 : (decide (r.1 = ((h, true) : Rub).1) && decide (r.2 = ((h, true) : Rub).2)) = (decide (r.1 = h) && r.2) := by
        show (decide (r.1 = h) && decide (r.2 = true)) = _
        cases r.2 <;> rfl
      rw [e2]
      have hD2 := y _ _ hD
      have sl := mineR_len rs h i
      have xy := same_trans x y
      cases e : (decide (r.1 = h) && r.2) with
      | true =>
        refine iteT ⟨_, rfl, _, hD2, by rw [nV_len]; omega, same_upd xy nD, ?_⟩
        rw [upd_same, ei]
        simp [nV]
      | false =>
        refine iteF ⟨xy, ?_⟩
        simpa using hD2
    · rintro H1 ⟨x1, hD1⟩
      have o1 := o.same x1
      have e1 := same_ex x1 hT
      refine ⟨_, rfl, a.td, _, rfl, o1.getR, a.rl, rfl, ⟨_, SqL.of o1.rl⟩, fun D2 nD2 => lc_list (xs := a.ra.map V.ref) (fun i H' => Same H1 H' ∧ ∃ ts : List Addr, H' D2 = some (.lst (ts.map V.ref)) ∧ ts.length ≤ i ∧ DpAll K H1 (ts.map V.ref) (((rs.take i).filter fun r => r.2).map rD)) ⟨same_new nD2, [], upd_same, Nat.zero_le _, .nil⟩ (fun i H' _ x => SqL.of (x.1 _ _ o1.rl)) ?_ ?_⟩
      · rintro i v H' hv ⟨x, ts, w1, w2, w3⟩
        obtain ⟨t, ht, rfl⟩ := get_map hv
        have li := (List.getElem?_eq_some_iff.mp ht).1
        obtain ⟨r, hr⟩ := getP (xs := rs) (i := i) (by rw [← o.rn]; exact li)
        have h3 := o1.ra i t r ht hr
        have lr := (List.getElem?_eq_some_iff.mp hr).1
        refine ⟨rfl, _, rfl, t, _, _, .bl r.2, rfl, rfl, SqL.of (x _ _ h3), atI_nat (j := 1) rfl, r.2, rfl, ?_⟩
        rw [List.take_add_one, hr, Option.toList_some, List.filter_append, List.filter_cons, List.filter_nil]
        cases e : r.2 with
        | true =>
          refine iteT ⟨_, rfl, _, w1, by rw [List.length_map]; omega, same_upd x nD2, ts ++ [t], by rw [upd_same, List.map_append]; rfl, by rw [List.length_append]; simp; omega, ?_⟩
          rw [if_pos rfl, List.map_append, List.map_append]
          exact dp_app w3 (.cons (by have := Dp.lst (K := K) (SqL.of h3) (.cons (.int _) (.cons (.bl _) .nil)); exact this) .nil)
        | false =>
          refine iteF ⟨x, ts, w1, by omega, ?_⟩
          simpa using w3
      · rintro H2 ⟨x2, ts, w1, w2, w3⟩
        have e0 : rs.take (a.ra.map V.ref).length = rs := List.take_of_length_le (by rw [hl]; exact Nat.le_refl _)
        rw [e0] at w3
        refine ⟨small0, fun p np => ⟨_, _, .lst (SqL.of (same_new np _ _ w1)) (dp_all_same (same_trans x2 (same_new np)) w3), .lst (SqL.of upd_same) .nil, shaped_rDs _, rfl, ?_⟩⟩
        have x3 : Same H1 (upd H2 p (.lst [])) := same_trans x2 (same_new np)
        generalize upd H2 p (.lst []) = H3 at x3 ⊢
        clear w1 w3 w2
        have o3 := o1.same x3
        have hD3 := x3 _ _ hD1
        have x03 := same_trans x1 x3
        have e3 := same_ex x03 hT
        have est : PyData.eqv (.list ((rs.filter fun r => r.2).map rD)) (.list []) = !stands rs := by
          unfold stands
          cases e : rs.filter (fun r => r.2) with
          | nil =>
            have : rs.any (fun r => r.2) = false := by
              rw [List.any_eq_false]
              intro r hr hr2
              have : r ∈ rs.filter (fun r => r.2) := List.mem_filter.mpr ⟨hr, hr2⟩
              rw [e] at this
              cases this
            rw [this]
            rfl
          | cons r l =>
            have m : r ∈ rs.filter (fun r => r.2) := by rw [e]; simp
            have : rs.any (fun r => r.2) = true := List.any_eq_true.mpr ⟨r, (List.mem_filter.mp m).1, (List.mem_filter.mp m).2⟩
            rw [this]
            rfl
        rw [est]
        refine ⟨_, rfl, rfl, _, rfl, ?_⟩
        rw [str_way]
        by_cases c1 : way = "rub"
        · rw [decide_eq_true c1]
          have ed : dueR rs us h way = if stands rs = true then (.str "none", rs, us) else (.non, rs ++ [(h, true)], us.set h []) := by unfold dueR; rw [if_pos c1]
          rw [ed] at k
          refine iteT ⟨_, rfl, _, rfl, ?_⟩
          cases e : stands rs with
          | true =>
            rw [e, if_pos rfl] at k
            exact iteT (k a H3 rfl (KN.same x03) (fun c hc => .inl hc) e3.tab (fun b hb => same_old x03 hb) o3)
          | false =>
            rw [e, if_neg (by decide)] at k
            refine iteF ⟨_, rfl, a.td, _, rfl, o3.getR, .inl ⟨rfl, _, SqL.of o3.rl⟩, _, rfl, by show 2 ≤ sizeLine; decide, fun p np => ?_⟩
            have y := same_new (o := .lst [.int (h : Nat), .bl true]) np
            have o4 := o3.same y
            have hp : upd H3 p (.lst [.int (h : Nat), .bl true]) p = some (.lst (rV (h, true))) := upd_same
            have np4 : ¬ ownL a p := fun z => by
              rcases o3.mob p z with ⟨xs, w⟩ | ⟨_, _, _, w⟩ <;> rw [np] at w <;> cases w
            show tNil _ (upd H3 p (.lst [.int (h : Nat), .bl true])) _
            generalize upd H3 p (.lst [.int (h : Nat), .bl true]) = H4 at y o4 hp ⊢
            have x04 := same_trans x03 y
            refine ⟨a.rl, _, .ref p, rfl, rfl, o4.rl, by rw [hl]; omega, ?_⟩
            have em : a.ra.map V.ref ++ [V.ref p] = (a.ra ++ [p]).map V.ref := by rw [List.map_append]; rfl
            rw [em]
            have o5 := o4.more hp np4
            have t5 := tabs_lst (o := .lst ((a.ra ++ [p]).map V.ref)) (same_ex x04 hT).tab o4.rl
            have old5 : ∀ b, upd H4 a.rl (.lst ((a.ra ++ [p]).map V.ref)) b = none → H4 b = none := fun b hb => upd_old o4.rl hb
            have km5 : KN cs (ownL a) H (upd H4 a.rl (.lst ((a.ra ++ [p]).map V.ref))) := fun c u hc _ nc => by
              rw [upd_ne (fun z => nc (by rw [z]; unfold ownL; simp))]
              exact x04 _ _ hc
            generalize upd H4 a.rl (.lst ((a.ra ++ [p]).map V.ref)) = H5 at o5 t5 old5 km5 ⊢
            refine ⟨small0, fun n nn => ?_⟩
            have y5 := same_new (o := .lst []) nn
            have o6 := o5.same y5
            have hn6 : upd H5 n (.lst []) n = some (.lst (nV [])) := upd_same
            have nn6 : ¬ ownL { a with ra := a.ra ++ [p] } n := fun z => by
              rcases o5.mob n z with ⟨xs, w⟩ | ⟨_, _, _, w⟩ <;> rw [nn] at w <;> cases w
            have n0 : H n = none := same_old x04 (old5 n nn)
            show gSub _ _ _ _ _ (upd H5 n (.lst [])) _
            generalize upd H5 n (.lst []) = H6 at y5 o6 hn6 ⊢
            refine ⟨_, rfl, a.td, _, rfl, o6.getUn, _, rfl, a.ul, _, _, h, rfl, rfl, o6.ul, ixN_nat (by rw [List.length_map, o6.un]; exact hh), ?_⟩
            have es : (a.ua.map V.ref).set h (V.ref n) = (a.ua.set h n).map V.ref := by rw [List.map_set]
            dsimp only
            rw [es]
            have o7 := o6.und (h := h) (l := []) hn6 hh nn6
            refine k { a with ra := a.ra ++ [p], ua := a.ua.set h n } _ rfl (fun c u hc m nc => ?_) (fun c hc => ?_) (tabs_lst (same_ex y5 t5).tab o6.ul) (fun b hb => same_old x04 (old5 b (same_old y5 (upd_old o6.ul hb)))) o7
            · rw [upd_ne (fun z => nc (by rw [z]; unfold ownL; simp))]
              exact y5 _ _ (km5 c u hc m nc)
            · have hc : c ∈ a.rl :: a.ul :: ((a.ra ++ [p]) ++ a.ua.set h n) := hc
              have np0 : H p = none := same_old x03 np
              rcases List.mem_cons.mp hc with z | z
              · exact .inl (by rw [z]; unfold ownL; simp)
              rcases List.mem_cons.mp z with z | z
              · exact .inl (by rw [z]; unfold ownL; simp)
              rcases List.mem_append.mp z with z | z
              · rcases List.mem_append.mp z with z | z
                · exact .inl (by unfold ownL; simp [z])
                · rw [List.mem_singleton] at z
                  exact .inr (by rw [z]; exact np0)
              · rcases List.mem_or_eq_of_mem_set z with z | z
                · exact .inl (by unfold ownL; simp [z])
                · exact .inr (by rw [z]; exact n0)
        · rw [decide_eq_false c1]
          obtain ⟨u, l, q1, q2, q3, q4, q5⟩ := getU o3 hh
          have ll := hu1000 l (List.mem_of_getElem? q3)
          -- which deeds
          have ed : dueR rs us h way = match (wayR rs us h way).getLast? with
            | none => (.bl false, rs, us)
            | some n => (.bl true, rs.set n ((rs.getD n r0).1, decide (way = "again")), us.set h (if way = "back" then us.getD h [] ++ [n] else (wayR rs us h way).dropLast)) := by unfold dueR; rw [if_neg c1]
          have wl : (wayR rs us h way).length ≤ 1000 ∧ ∀ n ∈ wayR rs us h way, n < rs.length := by
            unfold wayR
            split
            · exact ⟨Nat.le_trans (mineR_len _ _ _) h1000, fun n hn => mineR_lt hn⟩
            · rw [q4]; exact ll
          have some_ : ∀ (Z : VK), (∀ sa, H3 sa = some (.lst (nV (wayR rs us h way))) → (∀ t ∈ a.ra, sa ≠ t) → Z (.ref sa) H3) → (if decide (way = "back") = true then tVar 3 (((L2.start nmDue [V.ref a.td, V.int (h : Nat), V.str way]).set 3 (some (.ref D))).set 4 (some (V.bl (!stands rs)))) H3 Z else tOp (rIxL K) (tDGet (tVar 0) (tC (.str "undone"))) (tVar 1) (((L2.start nmDue [V.ref a.td, V.int (h : Nat), V.str way]).set 3 (some (.ref D))).set 4 (some (V.bl (!stands rs)))) H3 Z) := fun Z hZ => by
            by_cases c2 : way = "back"
            · rw [decide_eq_true c2]
              refine iteT ⟨_, rfl, hZ D ?_ fun t mt e => ?_⟩
              rotate_left
              · rcases o.mob t (by unfold ownL; simp [mt]) with ⟨xs, w⟩ | ⟨_, _, _, w⟩ <;> rw [← e, nD] at w <;> cases w
              unfold wayR
              rw [if_pos c2]
              exact hD3
            · rw [decide_eq_false c2]
              refine iteF ⟨_, rfl, a.td, _, rfl, o3.getUn, _, rfl, a.ul, _, _, .ref u, rfl, rfl, SqL.of o3.ul, atI_nat q1, hZ u ?_ fun t mt e => ?_⟩
              rotate_left
              · have nd0 := o.nd
                rw [List.nodup_cons, List.nodup_cons, List.nodup_append] at nd0
                exact nd0.2.2.2.2 t mt u (List.mem_of_getElem? q2) e.symm
              unfold wayR
              rw [if_neg c2, q4]
              exact q5
          refine iteF ⟨_, rfl, rfl, _, rfl, ?_⟩
          rw [str_way]
          refine some_ _ fun sa hsa hsn => ?_
          clear some_
          generalize hw : wayR rs us h way = wl_ at wl ed hsa
          refine ⟨_, rfl, small0, fun p np => ⟨_, _, .lst (SqL.of (same_new np _ _ hsa)) (dp_nats wl_), .lst (SqL.of upd_same) .nil, shaped_ns wl_, rfl, _, rfl, ?_⟩⟩
          have y := same_new (o := .lst []) np
          have o4 := o3.same y
          have hsa4 := y _ _ hsa
          have x04 := same_trans x03 y
          have q5' := y _ _ q5
          generalize upd H3 p (.lst []) = H4 at y o4 hsa4 x04 q5' ⊢
          have e4 := same_ex x04 hT
          rw [eqv_ns]
          rw [ed] at k
          cases eg : wl_.getLast? with
          | none =>
            rw [eg] at k
            rw [List.getLast?_eq_none_iff.mp eg]
            exact iteT (k a H4 rfl (KN.same x04) (fun c hc => .inl hc) e4.tab (fun b hb => same_old x04 hb) o4)
          | some n =>
            rw [eg] at k
            dsimp only at k
            have mn := List.mem_of_getLast? eg
            have ne : wl_ ≠ [] := fun z => by rw [z] at mn; cases mn
            have lp : 0 < wl_.length := List.length_pos_iff.mpr ne
            have la := atN_last ne
            have en : wl_.getLast?.getD 0 = n := by rw [eg]; rfl
            rw [en] at la
            have ln := wl.2 n mn
            obtain ⟨r, hr⟩ := getP (xs := rs) (i := n) ln
            obtain ⟨t, ht⟩ := getP (xs := a.ra) (i := n) (by rw [o.rn]; exact ln)
            have et : (a.ra.map V.ref)[n]? = some (.ref t) := by rw [List.getElem?_map, ht]; rfl
            have htr := o4.ra n t r ht hr
            have er : rs.getD n r0 = r := by rw [List.getD_eq_getElem?_getD, hr]; rfl
            have mt : t ∈ a.ra := List.mem_of_getElem? ht
            rw [er] at k
            rw [decide_eq_false ne]
            refine iteF ⟨_, rfl, rfl, _, rfl, a.td, _, rfl, o4.getR, _, rfl, 1, rfl, sa, _, _, _, rfl, rfl, SqL.of hsa4, la, a.rl, _, _, .ref t, rfl, rfl, SqL.of o4.rl, atI_nat et, t, _, 1, 1, rfl, rfl, htr, rfl, ?_⟩
            have ev : (rV r).set 1 (V.bl (decide (V.str way = V.str "again"))) = rV (r.1, decide (way = "again")) := by rw [str_way]; rfl
            rw [ev]
            have o5 := o4.rub ht (r.1, decide (way = "again"))
            have t5 := tabs_lst (o := .lst (rV (r.1, decide (way = "again")))) e4.tab htr
            have old5 : ∀ b, upd H4 t (.lst (rV (r.1, decide (way = "again")))) b = none → H4 b = none := fun b hb => upd_old htr hb
            have km5 : KN cs (ownL a) H (upd H4 t (.lst (rV (r.1, decide (way = "again"))))) := fun c u hc _ nc => by
              rw [upd_ne (fun z => nc (by rw [z]; unfold ownL; simp [mt]))]
              exact x04 _ _ hc
            have hsa5 : upd H4 t (.lst (rV (r.1, decide (way = "again")))) sa = some (.lst (nV wl_)) := by rw [upd_ne (hsn t mt)]; exact hsa4
            have hu5 : upd H4 t (.lst (rV (r.1, decide (way = "again")))) u = some (.lst (nV l)) := o5.ua h u l q2 q3
            generalize upd H4 t (.lst (rV (r.1, decide (way = "again")))) = H5 at o5 t5 old5 km5 hsa5 hu5 ⊢
            have fin : ∀ {lv : Addr} {H9 : Hp} {m : List Nat}, Same H5 H9 → H5 lv = none → H9 lv = some (.lst (nV m)) → us.set h m = us.set h (if way = "back" then us.getD h [] ++ [n] else wl_.dropLast) → Q (.bl true) (upd H9 a.ul (.lst ((a.ua.set h lv).map V.ref))) := fun {lv H9 m} y9 n9 h9 em => by
              have o9 := o5.same y9
              have nl9 : ¬ ownL a lv := fun z => by
                rcases o5.mob lv z with ⟨xs, w⟩ | ⟨_, _, _, w⟩ <;> rw [n9] at w <;> cases w
              have o10 := o9.und (h := h) (l := m) h9 hh nl9
              rw [em] at o10
              refine k { a with ua := a.ua.set h lv } _ rfl (fun c u hc m nc => ?_) (fun c hc => ?_) (tabs_lst (same_ex y9 t5).tab o9.ul) (fun b hb => same_old x04 (old5 b (same_old y9 (upd_old o9.ul hb)))) o10
              · rw [upd_ne (fun z => nc (by rw [z]; unfold ownL; simp))]
                exact y9 _ _ (km5 c u hc m nc)
              · have hc : c ∈ a.rl :: a.ul :: (a.ra ++ a.ua.set h lv) := hc
                rcases List.mem_cons.mp hc with z | z
                · exact .inl (by rw [z]; unfold ownL; simp)
                rcases List.mem_cons.mp z with z | z
                · exact .inl (by rw [z]; unfold ownL; simp)
                rcases List.mem_append.mp z with z | z
                · exact .inl (by unfold ownL; simp [z])
                · rcases List.mem_or_eq_of_mem_set z with z | z
                  · exact .inl (by unfold ownL; simp [z])
                  · exact .inr (by rw [z]; exact same_old x04 (old5 _ n9))
            refine ⟨_, rfl, 1, rfl, -1, rfl, sa, _, rfl, SqL.of hsa5, fun q nq => ?_⟩
            rw [cut_lastV wl_ ne]
            have y6 := same_new (o := .lst (nV wl_.dropLast)) nq
            have hq6 : upd H5 q (.lst (nV wl_.dropLast)) q = some (.lst (nV wl_.dropLast)) := upd_same
            generalize upd H5 q (.lst (nV wl_.dropLast)) = H6 at y6 hq6 ⊢
            have o6 := o5.same y6
            refine ⟨_, rfl, rfl, _, rfl, ?_⟩
            rw [str_way]
            by_cases c2 : way = "back"
            · rw [decide_eq_true c2]
              have hsa6 := y6 _ _ hsa5
              have hu6 := y6 _ _ hu5
              refine iteT ⟨_, rfl, a.td, _, rfl, o6.getUn, _, rfl, a.ul, _, _, .ref u, rfl, rfl, SqL.of o6.ul, atI_nat q1, _, rfl, 1, rfl, sa, _, _, _, rfl, rfl, SqL.of hsa6, la, by show 1 ≤ sizeLine; decide, fun m nm => ⟨u, m, _, _, rfl, rfl, same_new nm _ _ hu6, upd_same, by rw [nV_len]; show l.length + 1 ≤ sizeLine; omega, fun v nv => ?_⟩⟩
              have ea : nV l ++ [V.int (n : Nat)] = nV (l ++ [n]) := by simp [nV]
              rw [ea]
              have ss := same_trans y6 (same_trans (same_new (o := .lst [V.int (n : Nat)]) nm) (same_new (o := .lst (nV (l ++ [n]))) nv))
              have nv5 : H5 v = none := same_old y6 (same_old (same_new nm) nv)
              have hv : upd (upd H6 m (.lst [V.int (n : Nat)])) v (.lst (nV (l ++ [n]))) v = some (.lst (nV (l ++ [n]))) := upd_same
              generalize upd (upd H6 m (.lst [V.int (n : Nat)])) v (.lst (nV (l ++ [n]))) = H9 at ss hv ⊢
              have o9 := o5.same ss
              refine ⟨_, rfl, _, rfl, a.td, _, rfl, o9.getUn, _, rfl, a.ul, _, _, h, rfl, rfl, o9.ul, ixN_nat (by rw [List.length_map, o9.un]; exact hh), ?_⟩
              have es : (a.ua.map V.ref).set h (V.ref v) = (a.ua.set h v).map V.ref := by rw [List.map_set]
              dsimp only
              rw [es]
              exact fin ss nv5 hv (by rw [if_pos c2, q4])
            · rw [decide_eq_false c2]
              refine iteF ⟨_, rfl, _, rfl, a.td, _, rfl, o6.getUn, _, rfl, a.ul, _, _, h, rfl, rfl, o6.ul, ixN_nat (by rw [List.length_map, o6.un]; exact hh), ?_⟩
              have es : (a.ua.map V.ref).set h (V.ref q) = (a.ua.set h q).map V.ref := by rw [List.map_set]
              dsimp only
              rw [es]
              exact fin y6 nq hq6 (by rw [if_neg c2])
end
end TG

namespace TG
open PySem PySem.Spec PyProof.Rows L2 NdefX GenW Gx Lv
/-! ### methods that may raise -/
def tMethS (C : Addr) (m : Str) (sp : Sp) (E : L2.St → XK) (ta : TE) (t : L2.TA) : TE := fun σ H Q => ta σ H fun x H1 => ∃ a dx fs, x = .ref a ∧ H1 a = some (.ins C dx fs) ∧ fs.lookup m = none ∧ t σ H1 fun vs H2 => sp (.ref a :: vs) H2 Q (E σ)
section
variable {X : Cx} {CX : CXT} {k : Nat} {f C : Addr} {fd : FuncData} {ps : List Str} {sp : Sp} {E : L2.St → XK} {x m : Str} {p pos apos : Pos} {e o : Expr} {es : List Expr} {ta : TE} {t : L2.TA}
theorem pe_methS {pl : Sem Bool} (he : PE X o ta) (c : Cls X.K C) (hm : Meth X.K C m f) (F : FnOk X.prog X.w X.K X.mg X.base CX k f fd ps sp) (hr : Room k X.A) (hb : Binds X.K fd ps []) (hx : ∀ σ, PassesAt CX X σ (E σ)) (ha : PA X (e :: es) t)
    (hst : starEach (e :: es) X.env = (false, eval e X.env) :: starEach es X.env := by rfl) (hpl : (backTo pos (starEach es X.env)).any (·.1) = false := by rfl)
    (ht : eval (.Call (.Attribute o m apos) (e :: es) [] pos) X.env = (do
      let ov ← eval o X.env
      standAt apos.atName
      let (f, first) ← holding [ov] (getMethod ov m pl)
      callWith pos f first (backTo pos (starEach (e :: es) X.env)) (backToKw pos (keywordEach [] X.env))) := by rfl) :
    PE X (.Call (.Attribute o m apos) (e :: es) [] pos) (tMethS C m sp E ta t) := by
  refine ⟨fun pins s σ H Q I h => ?_⟩
  refine PySem.W.methodCall_KW (pl := pl) (thn (he.run pins s σ H _ I h) fun u s1 ⟨x, H1, I1, rx, a, dx, fs, ex, ea, l, q⟩ => ?_) ht
  subst ex
  obtain rfl : u = Value.ref a := rx
  refine getmeth_ok I1 ea c hm l ?_
  refine PySem.W.callWith_K (first := [.ref a]) (h₀ := X.base) I.ok.mod.kin hm.kp (thn (ha.run pos pins s1 σ H1 _ I1 q) fun us s2 ⟨vs, H2, I2, r, q2⟩ => ⟨I2.kIn, ?_⟩) hst hpl
  exact run_fnS (us := .ref a :: us) (vs := .ref a :: vs) F hr hb (hx σ) I2 (.cons rfl r) q2
end
/-! ### the law's lambdas -/
abbrev LamT := Arguments × Expr × Scope
def sc00 : Scope := { kind := .function, names := [], isGenerator := false, isCoroutine := false }
def lamAs : Stmt → LamT
  | .Assign _ (.Call _ [.Lambda p b sc _] _ _) _ => (p, b, sc)
  | _ => ({ posonlyargs := [], args := [], vararg := none, kwonlyargs := [], kw_defaults := [], kwarg := none, defaults := [] }, .Name "x" ⟨0, 0, 0, 0⟩, sc00)
def forBody : Stmt → List Stmt
  | .For _ _ b _ _ => b
  | _ => []
def ifThen : Stmt → List Stmt
  | .If _ b _ _ => b
  | _ => []
def ifElse : Stmt → List Stmt
  | .If _ _ b _ => b
  | _ => []
def stAt (l : List Stmt) (i : Nat) : Stmt := l.getD i (.Pass ⟨0, 0, 0, 0⟩)
abbrev lawIf : Stmt := stAt (forBody (stAt (defBody s_law) 5)) 1
abbrev lawL1 : LamT := lamAs (stAt (ifThen lawIf) 0)
abbrev lawL2 : LamT := lamAs (stAt (ifElse lawIf) 0)
abbrev lawQ : Str := ("law" : Str) ++ ".<locals>." ++ "<lambda>"
abbrev cap1 : List Str := ["_law_table", "_law_hand"]
abbrev cap2 : List Str := ["_law_table", "_law_hand", "_law_way"]
theorem sc_l1 : NScope cap1 [] cap1 lawL1.2.2 := nscope_by (by decide +kernel)
theorem sc_l2 : NScope cap2 [] cap2 lawL2.2.2 := nscope_by (by decide +kernel)
section
variable {P : Program} {w : World} {K : PySem.W.Frag} {mg : Str → Option Value} {base : Heap} {cs : List (Addr × Addr)} {B C : Addr}
def spLamR (cs : List (Addr × Addr)) (B C : Addr) (F : NF) : Sp := fun vs H Q E => vs = [] ∧ ∃ (tb : Addr) (h : Nat) (cl : List (Addr × Obj)), Caught F cap1 [some (.ref tb), some (.int (h : Nat))] cl H ∧
  spTRub cs B C [.ref tb, .int (h : Nat)] (delC H cl) (fun v H' => (∀ c o, cl.lookup c = some o → H' c = none) → Q v (addC H' cl)) (fun cls d H' => (∀ c o, cl.lookup c = some o → H' c = none) → E cls d (addC H' cl))
theorem lok_r {q : Str} {c' f g : Addr} {fdg : FuncData} {lc : List (Str × Addr)} (X : TabC K B) (M : Meth K B "rub" g) (G : FnOk P w K mg base (L2.CX P w) 12 g fdg ["self", "hand"] (spTRub cs B C)) (bd : Binds K fdg ["self", "hand"] []) :
    LOkX P w K mg base 13 f ⟨"<lambda>", q, lawL1.1, [], lawL1.2.2, lc, c'⟩ lawL1.2.1 (spLamR cs B C ⟨"<lambda>", q, lawL1.1, [], lawL1.2.2, lc, c'⟩) := by
  refine lokx_of (N := cap1) (fr := cap1) sc_l1 (fun pm ctv => rfl) fun A outer s H Q E hr h => ?_
  obtain ⟨_, tb, h, cl, hC, hsp⟩ := h
  refine ⟨[some (.ref tb), some (.int (h : Nat))], cl, _, hC, pe_methS (pv 0) X.cls M G hr bd (fun σ => passAt (takes_of rfl rfl rfl rfl) σ) (pa_cons (pv 1) pa_nil), ?_⟩
  obtain ⟨tb2, h2, a, S, e, hT, hD, r⟩ := id hsp
  cases e
  exact ⟨_, rfl, tb, a.dx, _, rfl, hD.ob, rfl, _, rfl, hsp⟩
def spLamB (cs : List (Addr × Addr)) (B : Addr) (F : NF) : Sp := fun vs H Q E => vs = [] ∧ ∃ (tb : Addr) (h : Nat) (way : Str) (cl : List (Addr × Obj)), Caught F cap2 [some (.ref tb), some (.int (h : Nat)), some (.str way)] cl H ∧
  (if way = "back" then spTBack cs B [.ref tb, .int (h : Nat)] (delC H cl) (fun v H' => (∀ c o, cl.lookup c = some o → H' c = none) → Q v (addC H' cl)) (fun _ _ _ => False)
   else spTAgain cs B [.ref tb, .int (h : Nat)] (delC H cl) (fun v H' => (∀ c o, cl.lookup c = some o → H' c = none) → Q v (addC H' cl)) (fun _ _ _ => False))
theorem lok_b {q : Str} {c' f g1 g2 : Addr} {fd1 fd2 : FuncData} {lc : List (Str × Addr)} (X : TabC K B)
    (M1 : Meth K B "back" g1) (G1 : FnOk P w K mg base CX0 13 g1 fd1 ["self", "hand"] (spTBack cs B)) (b1 : Binds K fd1 ["self", "hand"] [])
    (M2 : Meth K B "again" g2) (G2 : FnOk P w K mg base CX0 13 g2 fd2 ["self", "hand"] (spTAgain cs B)) (b2 : Binds K fd2 ["self", "hand"] []) :
    LOkX P w K mg base 14 f ⟨"<lambda>", q, lawL2.1, [], lawL2.2.2, lc, c'⟩ lawL2.2.1 (spLamB cs B ⟨"<lambda>", q, lawL2.1, [], lawL2.2.2, lc, c'⟩) := by
  refine lokx_of (N := cap2) (fr := cap2) sc_l2 (fun pm ctv => rfl) fun A outer s H Q E hr h => ?_
  obtain ⟨_, tb, h, way, cl, hC, hsp⟩ := h
  refine ⟨[some (.ref tb), some (.int (h : Nat)), some (.str way)], cl, _, hC, pe_ifExp (pt_cmpR op_eq (pv 2) pe_str (nomark _)) (pe_meth (pv 0) X.cls M1 G1 hr b1 .nil pass0 (pa_cons (pv 1) pa_nil)) (pe_meth (pv 0) X.cls M2 G2 hr b2 .nil pass0 (pa_cons (pv 1) pa_nil)), ?_⟩
  refine ⟨_, rfl, rfl, _, rfl, ?_⟩
  rw [str_way]
  by_cases c : way = "back"
  · rw [decide_eq_true c]
    rw [if_pos c] at hsp
    obtain ⟨tb2, h2, a, S, e, hT, hD, r⟩ := id hsp
    cases e
    exact iteT ⟨_, rfl, tb, a.dx, _, rfl, hD.ob, rfl, _, rfl, hsp⟩
  · rw [decide_eq_false c]
    rw [if_neg c] at hsp
    obtain ⟨tb2, h2, a, S, e, hT, hD, r⟩ := id hsp
    cases e
    exact iteF ⟨_, rfl, tb, a.dx, _, rfl, hD.ob, rfl, _, rfl, hsp⟩
end
end TG

namespace TG
open PySem PySem.Spec PyProof.Rows L2 NdefX GenW Gx Lv
/-! ### the table that the law has -/
def dOf (r : Rub) : Deed := (r.1, ("" : Str), 0, r.2)
def dsOf (rs : List Rub) : List Deed := rs.map dOf
def gS (z : Str) (rs : List Rub) (us : List (List Nat)) (sp : List Nat) : TSt := ⟨sgS z ++ [("" : Str)], List.range (z.length + 1), thereR (z.length + 1) (dsOf rs), dsOf rs, sp, us⟩
theorem markR_of (th : List Bool) (r : Rub) : markR th (dOf r) = if r.2 = true then th.set 0 false else th := by
  unfold markR dOf
  have : decide (("" : Str) = "") = true := decide_eq_true rfl
  simp only [this]
  cases r.2 <;> rfl
theorem there_any (m : Nat) : ∀ (rs : List Rub) (b : Bool), (dsOf rs).foldl markR (b :: List.replicate m true) = (b && !stands rs) :: List.replicate m true
  | [], b => by
    show b :: _ = _
    unfold stands
    simp
  | r :: rs, b => by
    unfold dsOf
    rw [List.map_cons, List.foldl_cons, markR_of]
    have e : stands (r :: rs) = (r.2 || stands rs) := by unfold stands; rw [List.any_cons]
    rw [e]
    cases r.2 with
    | true =>
      rw [if_pos rfl, List.set_cons_zero]
      have := there_any m rs false
      unfold dsOf at this
      rw [this]
      simp
    | false =>
      rw [if_neg (by decide)]
      have := there_any m rs b
      unfold dsOf at this
      rw [this]
      simp
theorem there_gS (m : Nat) (rs : List Rub) : thereR (m + 1) (dsOf rs) = (!stands rs) :: List.replicate m true := by
  unfold thereR
  rw [List.replicate_succ, there_any]
  simp
theorem getD_there {m i : Nat} {b : Bool} (hi : i < m + 1) : (b :: List.replicate m true).getD i false = if i = 0 then b else true := by
  cases i with
  | zero => rfl
  | succ i =>
    rw [if_neg (by omega)]
    show (List.replicate m true).getD i false = true
    rw [List.getD_eq_getElem?_getD, List.getElem?_replicate, if_pos (by omega)]
    rfl
theorem filt_all {p : Nat → Bool} : ∀ {l : List Nat}, (∀ x ∈ l, p x = true) → l.filter p = l
  | [], _ => rfl
  | a :: l, h => by rw [List.filter_cons, if_pos (h a (by simp)), filt_all fun x hx => h x (by simp [hx])]
theorem those_gS (m : Nat) (rs : List Rub) : thoseR (List.range (m + 1)) (thereR (m + 1) (dsOf rs)) = if stands rs = true then List.range' 1 m else List.range (m + 1) := by
  rw [there_gS]
  unfold thoseR
  have e1 : List.range (m + 1) = 0 :: List.range' 1 m := by rw [List.range_eq_range', List.range'_succ]
  have h1 : (List.range' 1 m).filter (fun i => ((!stands rs) :: List.replicate m true).getD i false) = List.range' 1 m := filt_all fun x hx => by
    rw [List.mem_range'_1] at hx
    rw [getD_there (by omega), if_neg (by omega)]
  rw [e1, List.filter_cons, h1]
  have e2 : ((!stands rs) :: List.replicate m true).getD 0 false = !stands rs := rfl
  rw [e2]
  cases stands rs <;> rfl
theorem first_gS (m : Nat) (hm : 1 ≤ m) (rs : List Rub) : firstR (List.range (m + 1)) (thereR (m + 1) (dsOf rs)) 1 = 1 ∧ ∃ q ∈ (List.range (m + 1)).drop ((List.range (m + 1)).idxOf 1), (thereR (m + 1) (dsOf rs)).getD q false = true := by
  rw [there_gS]
  have e0 : (List.range (m + 1)).idxOf 1 = 1 := by
    obtain ⟨k, rfl⟩ : ∃ k, m = k + 1 := ⟨m - 1, by omega⟩
    rw [List.range_eq_range', List.range'_succ, List.range'_succ]
    simp [List.idxOf_cons]
  have e1 : (List.range (m + 1)).drop 1 = List.range' 1 m := by rw [List.range_eq_range', List.range'_succ]; rfl
  have e2 : List.range' 1 m = 1 :: List.range' 2 (m - 1) := by
    obtain ⟨k, rfl⟩ : ∃ k, m = k + 1 := ⟨m - 1, by omega⟩
    rw [List.range'_succ]
    rfl
  have g1 : ((!stands rs) :: List.replicate m true).getD 1 false = true := by rw [getD_there (by omega), if_neg (by omega)]
  unfold firstR
  rw [e0, e1, e2]
  refine ⟨?_, 1, by simp, g1⟩
  rw [List.find?_cons, g1]
  rfl
/-! ### its text -/
structure TxtOk (z : Str) : Prop where
  pos : 1 ≤ z.length
  len : z.length ≤ 10
  sg : ∀ c ∈ cl z, SgOk c
theorem sgS_len (z : Str) : (sgS z).length = z.length := by unfold sgS; rw [List.length_map, Array.length_toList]; rfl
theorem sgS_one {z : Str} : ∀ x ∈ sgS z ++ [("" : Str)], x.length ≤ 1 := fun x hx => by
  rcases List.mem_append.mp hx with h | h
  · unfold sgS at h
    obtain ⟨c, _, rfl⟩ := List.mem_map.mp h
    exact Nat.le_refl _
  · rw [List.mem_singleton] at h
    rw [h]
    decide
theorem cl_textR (signs : List Str) (marks : List Nat) : cl (textR signs marks) = (marks.map fun m => cl (signs.getD m "")).flatten := by
  unfold textR
  rw [cl_joinL]
  have e0 : cl ("" : Str) = [] := by decide +kernel
  rw [e0, List.map_map]
  have : ∀ l : List (List Nat), TL.joinL [] l = l.flatten := by
    intro l
    induction l with
    | nil => rfl
    | cons y ys ih =>
      cases ys with
      | nil => simp [TL.joinL]
      | cons x xs =>
        show y ++ ([] ++ TL.joinL [] (x :: xs)) = _
        rw [List.nil_append, ih]
        rfl
  rw [this]
  rfl
theorem sg_getD {z : Str} {m : Nat} : cl ((sgS z ++ [("" : Str)]).getD m "") = (cl z)[m]?.toList := by
  have e0 : cl ("" : Str) = [] := by decide +kernel
  have ez : (cl z).length = z.length := (len_cl z).symm
  rw [List.getD_eq_getElem?_getD]
  by_cases h : m < z.length
  · rw [List.getElem?_append_left (by rw [sgS_len]; exact h)]
    unfold sgS
    rw [List.getElem?_map]
    have e : z.cps.toList[m]? = (cl z)[m]? := rfl
    rw [e, List.getElem?_eq_getElem (by omega)]
    rfl
  · have e : (cl z)[m]? = none := List.getElem?_eq_none (by omega)
    rw [e]
    rw [List.getElem?_append_right (by rw [sgS_len]; omega), sgS_len]
    cases q : ([("" : Str)] : List Str)[m - z.length]? with
    | none => exact e0
    | some x =>
      have := List.mem_of_getElem? q
      rw [List.mem_singleton] at this
      rw [this]
      exact e0
theorem flat_range (l : List Nat) : ∀ (n s : Nat), ((List.range' s n).map fun m => l[m]?.toList).flatten = (l.drop s).take n
  | 0, s => by simp
  | n + 1, s => by
    rw [List.range'_succ, List.map_cons, List.flatten_cons, flat_range l n (s + 1)]
    by_cases h : s < l.length
    · rw [List.getElem?_eq_getElem h, List.drop_eq_getElem_cons h]
      rfl
    · rw [List.getElem?_eq_none (by omega), List.drop_eq_nil_of_le (by omega), List.drop_eq_nil_of_le (by omega)]
      simp
theorem text_from {z : Str} (s n : Nat) : cl (textR (sgS z ++ [("" : Str)]) (List.range' s n)) = ((cl z).drop s).take n := by
  rw [cl_textR, ← flat_range]
  congr 1
  exact List.map_congr_left fun m _ => sg_getD
end TG

namespace TG
open PySem PySem.Spec PyProof.Rows L2 NdefX GenW Gx Lv
theorem str_of {a b : Str} (h : cl a = cl b) : a = b := by
  obtain ⟨⟨a⟩⟩ := a
  obtain ⟨⟨b⟩⟩ := b
  have : a = b := h
  rw [this]
theorem page_one {t : Str} : pageT [[t]] = t := by
  refine str_of ?_
  unfold pageT rowT
  rw [cl_joinL]
  show cl (Txt.join tabS [t]) = _
  rw [cl_joinL]
  rfl
theorem rows_one {t : Str} (h1 : t.length ≤ 10) (h2 : ∀ c ∈ cl t, SgOk c) : PgOk [[t]] ∧ rowsT t = [[t]] := by
  have h : PgOk [[t]] := ⟨Nat.le_refl _, by show 1 ≤ 30; decide, fun r hr => by
    rw [List.mem_singleton] at hr
    subst hr
    exact ⟨Nat.le_refl _, by show 1 ≤ 6; decide, fun x hx => by
      rw [List.mem_singleton] at hx
      subst hx
      exact ⟨h1, h2⟩⟩⟩
  have e := rowsT_page h
  rw [page_one] at e
  exact ⟨h, e⟩
section
variable {z : Str} {rs : List Rub} {us : List (List Nat)} {sp : List Nat}
theorem sgS_len1 : (sgS z ++ [("" : Str)]).length = z.length + 1 := by rw [List.length_append, sgS_len]; rfl
theorem here_gS : hereR (gS z rs us sp) = if stands rs = true then List.range' 1 z.length else List.range (z.length + 1) := those_gS _ _
/-- what is there -/
def txtR (z : Str) (rs : List Rub) : Str := textR (sgS z ++ [("" : Str)]) (thoseR (List.range (z.length + 1)) (thereR (z.length + 1) (dsOf rs)))
theorem cl_txt : cl (txtR z rs) = if stands rs = true then (cl z).drop 1 else cl z := by
  have ez : (cl z).length = z.length := (len_cl z).symm
  unfold txtR
  rw [those_gS]
  cases stands rs with
  | true =>
    rw [if_pos rfl, if_pos rfl, text_from, List.take_of_length_le]
    rw [List.length_drop]
    omega
  | false =>
    rw [if_neg (by decide), if_neg (by decide), List.range_eq_range', text_from, List.drop_zero, List.take_of_length_le]
    omega
theorem txt_ok (h : TxtOk z) : (txtR z rs).length ≤ 10 ∧ ∀ c ∈ cl (txtR z rs), SgOk c := by
  have ez : (cl z).length = z.length := (len_cl z).symm
  have h1 := h.len
  rw [len_cl, cl_txt]
  constructor
  · split
    · rw [List.length_drop]; omega
    · omega
  · intro c hc
    split at hc
    · exact h.sg c (List.mem_of_mem_drop hc)
    · exact h.sg c hc
theorem gS_set (h : TxtOk z) (rs' : List Rub) (hl : rs'.length ≤ 9000) (hs : ∀ s ∈ sp, s = 1) (h4 : sp.length ≤ 4) : SetOk (gS z rs us sp) (gS z rs us sp).signs (gS z rs us sp).order (dsOf rs') := by
  have h1 := h.len
  have hp := h.pos
  have e := sgS_len1 (z := z)
  refine ⟨sgS_one, by show (sgS z ++ [("" : Str)]).length ≤ 9000; omega, fun m hm => ?_, ?_, fun d hd => ?_, by unfold dsOf; rw [List.length_map]; exact hl, fun s hs2 => ?_, ?_, h4⟩
  · show m < (sgS z ++ [("" : Str)]).length
    have : m ∈ List.range (z.length + 1) := hm
    rw [List.mem_range] at this
    omega
  · show (List.range (z.length + 1)).length ≤ 9000
    rw [List.length_range]
    omega
  · unfold dsOf at hd
    obtain ⟨r, _, rfl⟩ := List.mem_map.mp hd
    show 0 < (sgS z ++ [("" : Str)]).length
    omega
  · have := hs s hs2
    subst this
    refine ⟨List.mem_range.mpr (by omega), ?_⟩
    show ∃ m ∈ (List.range (z.length + 1)).drop _, (thereR (sgS z ++ [("" : Str)]).length (dsOf rs')).getD m false = true
    rw [e]
    exact (first_gS z.length hp rs').2
  · show PgOk (rowsT (textR (sgS z ++ [("" : Str)]) (thoseR (List.range (z.length + 1)) (thereR (sgS z ++ [("" : Str)]).length (dsOf rs')))))
    rw [e]
    have q := txt_ok (rs := rs') h
    have r := rows_one q.1 q.2
    show PgOk (rowsT (txtR z rs'))
    rw [r.2]
    exact r.1
theorem gS_settle (h : TxtOk z) (rs' : List Rub) (hs : ∀ s ∈ sp, s = 1) : settleR (gS z rs us sp) (gS z rs us sp).signs (gS z rs us sp).order (dsOf rs') = gS z rs' us sp := by
  have e := sgS_len1 (z := z)
  have e2 : (sp.map (firstR (List.range (z.length + 1)) (thereR (z.length + 1) (dsOf rs')))) = sp := by
    have := List.map_congr_left (f := firstR (List.range (z.length + 1)) (thereR (z.length + 1) (dsOf rs'))) (g := id) (l := sp) fun s hs2 => by
      rw [hs s hs2]
      exact (first_gS z.length h.pos rs').1
    rw [this, List.map_id]
  show (⟨sgS z ++ [("" : Str)], List.range (z.length + 1), thereR (sgS z ++ [("" : Str)]).length (dsOf rs'), dsOf rs', sp.map (firstR (List.range (z.length + 1)) (thereR (sgS z ++ [("" : Str)]).length (dsOf rs'))), us⟩ : TSt) = _
  rw [e, e2]
  rfl
theorem gS_ok (h : TxtOk z) (hl : rs.length ≤ 9000) (hs : ∀ s ∈ sp, s ∈ hereR (gS z rs us sp)) (hn : sp.length = us.length) (h4 : sp.length ≤ 4) (hu : ∀ l ∈ us, l.length ≤ 9000 ∧ ∀ n ∈ l, n < rs.length) : TOk (gS z rs us sp) := by
  have h1 := h.len
  have e := sgS_len1 (z := z)
  refine ⟨sgS_one, by show (sgS z ++ [("" : Str)]).length ≤ 9000; omega, fun m hm => ?_, ?_, ?_, fun d hd => ?_, by show (dsOf rs).length ≤ 9000; unfold dsOf; rw [List.length_map]; exact hl, hs, hn, h4, fun l hl2 => ⟨(hu l hl2).1, fun n hn2 => by show n < (dsOf rs).length; unfold dsOf; rw [List.length_map]; exact (hu l hl2).2 n hn2⟩⟩
  · show m < (sgS z ++ [("" : Str)]).length
    have : m ∈ List.range (z.length + 1) := hm
    rw [List.mem_range] at this
    omega
  · show (List.range (z.length + 1)).length ≤ 9000
    rw [List.length_range]
    omega
  · show (thereR (z.length + 1) (dsOf rs)).length = (sgS z ++ [("" : Str)]).length
    rw [thereR_len, e]
  · have hd : d ∈ dsOf rs := hd
    unfold dsOf at hd
    obtain ⟨r, _, rfl⟩ := List.mem_map.mp hd
    show 0 < (sgS z ++ [("" : Str)]).length
    omega
theorem one_here (h : TxtOk z) : 1 ∈ hereR (gS z rs us sp) := by
  have hp := h.pos
  rw [here_gS]
  cases stands rs with
  | true => rw [if_pos rfl, List.mem_range'_1]; omega
  | false => rw [if_neg (by decide), List.mem_range]; omega
theorem start_gS (z : Str) (n : Nat) : startR z n = gS z [] (List.replicate n []) (List.replicate n 0) := by
  unfold startR gS thereR dsOf
  rfl
/-- a rub meets the first sign, or nothing -/
theorem near_rub (h : TxtOk z) {k : Nat} (hk : sp.getD k 0 = 1) : nearR (gS z rs us sp) k (-1) = if stands rs = true then none else some 0 := by
  have hp := h.pos
  unfold nearR
  have e0 : (gS z rs us sp).spots.getD k 0 = 1 := hk
  rw [e0]
  obtain ⟨m, hm⟩ : ∃ m, z.length = m + 1 := ⟨z.length - 1, by omega⟩
  have eh := here_gS (z := z) (rs := rs) (us := us) (sp := sp)
  rw [hm] at eh
  cases e : stands rs with
  | true =>
    rw [e, if_pos rfl] at eh
    rw [eh]
    have : (List.range' 1 (m + 1)).idxOf 1 = 0 := by rw [List.range'_succ]; simp [List.idxOf_cons]
    rw [this, if_neg (by omega)]
    rfl
  | false =>
    rw [e, if_neg (by decide)] at eh
    rw [eh]
    have : (List.range (m + 1 + 1)).idxOf 1 = 1 := by
      rw [List.range_eq_range', List.range'_succ, List.range'_succ]
      simp [List.idxOf_cons]
    rw [this, List.length_range, if_pos (by omega)]
    show (List.range (m + 1 + 1))[0]? = some 0
    rw [List.range_eq_range', List.range'_succ]
    rfl
/-- going right from the begin -/
theorem near_right (h : TxtOk z) {k : Nat} (hk : sp.getD k 0 = 0) : nearR (gS z [] us sp) k 1 = some 1 := by
  have hp := h.pos
  unfold nearR
  have e0 : (gS z [] us sp).spots.getD k 0 = 0 := hk
  rw [e0]
  obtain ⟨m, hm⟩ : ∃ m, z.length = m + 1 := ⟨z.length - 1, by omega⟩
  have eh := here_gS (z := z) (rs := []) (us := us) (sp := sp)
  rw [hm, if_neg (by decide)] at eh
  rw [eh]
  have : (List.range (m + 1 + 1)).idxOf 0 = 0 := by
    rw [List.range_eq_range', List.range'_succ]
    simp [List.idxOf_cons]
  rw [this, List.length_range, if_pos (by omega)]
  show (List.range (m + 1 + 1))[1]? = some 1
  rw [List.range_eq_range', List.range'_succ, List.range'_succ]
  rfl
/-- where it stands -/
theorem at_gS (h : TxtOk z) {k : Nat} (hk : sp.getD k 0 = 1) : atR (gS z rs us sp) k = (0, 0, if stands rs = true then 0 else 1) := by
  have hp := h.pos
  have ez : (cl z).length = z.length := (len_cl z).symm
  have key : ∀ t : Str, t.length ≤ 10 → (∀ c ∈ cl t, SgOk c) → ((rowsT t).length - 1, ((rowsT t).getLast?.getD []).length - 1, (((rowsT t).getLast?.getD []).getLast?.getD "").length) = (0, 0, t.length) := fun t h1 h2 => by
    rw [(rows_one h1 h2).2]
    rfl
  unfold atR
  have e0 : (gS z rs us sp).spots.getD k 0 = 1 := hk
  rw [e0, here_gS]
  obtain ⟨m, hm⟩ : ∃ m, z.length = m + 1 := ⟨z.length - 1, by omega⟩
  cases stands rs with
  | true =>
    rw [if_pos rfl]
    have e1 : (List.range' 1 z.length).idxOf 1 = 0 := by rw [hm, List.range'_succ]; simp [List.idxOf_cons]
    rw [e1, List.take_zero]
    show ((rowsT (textR (sgS z ++ [("" : Str)]) [])).length - 1, _, _) = _
    have e2 : cl (textR (sgS z ++ [("" : Str)]) []) = [] := by rw [cl_textR]; rfl
    have := key (textR (sgS z ++ [("" : Str)]) []) (by rw [len_cl, e2]; decide) (fun c hc => by rw [e2] at hc; cases hc)
    have l0 : (textR (sgS z ++ [("" : Str)]) []).length = 0 := by rw [len_cl, e2]; rfl
    rw [l0] at this
    exact this
  | false =>
    rw [if_neg (by decide)]
    have e1 : (List.range (z.length + 1)).idxOf 1 = 1 := by
      rw [hm, List.range_eq_range', List.range'_succ, List.range'_succ]
      simp [List.idxOf_cons]
    have e3 : (List.range (z.length + 1)).take 1 = List.range' 0 1 := by rw [List.range_eq_range', List.range'_succ]; rfl
    rw [e1, e3]
    have e2 : cl (textR (sgS z ++ [("" : Str)]) (List.range' 0 1)) = (cl z).take 1 := by rw [text_from, List.drop_zero]
    have l1 : (textR (sgS z ++ [("" : Str)]) (List.range' 0 1)).length = 1 := by rw [len_cl, e2, List.length_take]; omega
    have := key (textR (sgS z ++ [("" : Str)]) (List.range' 0 1)) (by rw [l1]; decide) (fun c hc => by rw [e2] at hc; exact h.sg c (List.mem_of_mem_take hc))
    rw [l1] at this
    exact this
end
end TG

namespace TG
open PySem PySem.Spec PyProof.Rows L2 NdefX GenW Gx Lv
/-! ### the table's deeds against the law's -/
section
variable {z : Str} {rs : List Rub} {us : List (List Nat)} {sp : List Nat}
theorem ds_len (rs : List Rub) : (dsOf rs).length = rs.length := by unfold dsOf; rw [List.length_map]
theorem ds_get (rs : List Rub) (i : Nat) : (dsOf rs).getD i d0 = dOf (rs.getD i r0) := by
  unfold dsOf
  rw [List.getD_eq_getElem?_getD, List.getD_eq_getElem?_getD, List.getElem?_map]
  cases rs[i]? <;> rfl
theorem st_mine (rs : List Rub) (h n : Nat) : stR (dsOf rs) h n = mineR rs h n := by
  unfold stR mineR
  congr 1
  funext i
  rw [ds_get]
  rfl
theorem turn_gS {n : Nat} (hn : n < rs.length) (st : Bool) : turnR (gS z rs us sp) n st = dsOf (rs.set n ((rs.getD n r0).1, st)) := by
  obtain ⟨r, hr⟩ := getP (xs := rs) (i := n) hn
  have e : (gS z rs us sp).deeds[n]? = some (dOf r) := by
    show (dsOf rs)[n]? = _
    unfold dsOf
    rw [List.getElem?_map, hr]
    rfl
  have e2 : rs.getD n r0 = r := by rw [List.getD_eq_getElem?_getD, hr]; rfl
  unfold turnR
  rw [e, e2]
  show (dsOf rs).set n (dOf (r.1, st)) = _
  unfold dsOf
  rw [List.map_set]
/-- what is told, and what stands behind it -/
structure Sit (z : Str) (k : Nat) (rs : List Rub) (us : List (List Nat)) : Prop where
  un : us.length = k
  rl : rs.length ≤ 100
  ul : ∀ l ∈ us, l.length ≤ 1000 ∧ ∀ n ∈ l, n < rs.length
theorem rub_gS (h : TxtOk z) (hs : ∀ s ∈ sp, s = 1) {k : Nat} (e : stands rs = false) : rubR (gS z rs us sp) k 0 = gS z (dueR rs us k "rub").2.1 (dueR rs us k "rub").2.2 sp := by
  have e1 : dueR rs us k "rub" = (.non, rs ++ [(k, true)], us.set k []) := by
    unfold dueR
    rw [if_pos rfl, e, if_neg (by decide)]
  rw [e1]
  unfold rubR
  have e2 : (gS z rs us sp).deeds ++ [((k, ("" : Str), 0, true) : Deed)] = dsOf (rs ++ [(k, true)]) := by
    show dsOf rs ++ _ = _
    unfold dsOf
    rw [List.map_append]
    rfl
  rw [e2, gS_settle h _ hs]
  rfl
theorem back_gS (h : TxtOk z) (hs : ∀ s ∈ sp, s = 1) {k : Nat} : (V.bl (backR (gS z rs us sp) k).1 = (dueR rs us k "back").1) ∧ (backR (gS z rs us sp) k).2 = gS z (dueR rs us k "back").2.1 (dueR rs us k "back").2.2 sp := by
  have ew : wayR rs us k "back" = mineR rs k rs.length := by unfold wayR; rw [if_pos rfl]
  have est : stR (gS z rs us sp).deeds k (gS z rs us sp).deeds.length = mineR rs k rs.length := by
    show stR (dsOf rs) k (dsOf rs).length = _
    rw [st_mine, ds_len]
  unfold backR dueR
  rw [if_neg (by decide), ew, est]
  cases eg : (mineR rs k rs.length).getLast? with
  | none => exact ⟨rfl, rfl⟩
  | some n =>
    refine ⟨rfl, ?_⟩
    have ln := mineR_lt (List.mem_of_getLast? eg)
    dsimp only
    rw [turn_gS ln, gS_settle h _ hs, if_pos rfl]
    have : decide (("back" : Str) = "again") = false := by decide
    rw [this]
    rfl
theorem again_gS (h : TxtOk z) (hs : ∀ s ∈ sp, s = 1) {k : Nat} (hu : ∀ n ∈ us.getD k [], n < rs.length) : (V.bl (againR (gS z rs us sp) k).1 = (dueR rs us k "again").1) ∧ (againR (gS z rs us sp) k).2 = gS z (dueR rs us k "again").2.1 (dueR rs us k "again").2.2 sp := by
  have ew : wayR rs us k "again" = us.getD k [] := by unfold wayR; rw [if_neg (by decide)]
  unfold againR dueR
  rw [if_neg (by decide), ew]
  have eu : (gS z rs us sp).undone.getD k [] = us.getD k [] := rfl
  rw [eu]
  cases eg : (us.getD k []).getLast? with
  | none => exact ⟨rfl, rfl⟩
  | some n =>
    refine ⟨rfl, ?_⟩
    have ln := hu n (List.mem_of_getLast? eg)
    dsimp only
    rw [turn_gS ln, gS_settle h _ hs, if_neg (by decide)]
    have : decide (("again" : Str) = "again") = true := decide_eq_true rfl
    rw [this]
    rfl
/-- the law's state goes on -/
theorem getD_mem_or (us : List (List Nat)) (k : Nat) : us.getD k [] ∈ us ∨ us.getD k [] = [] := by
  rw [List.getD_eq_getElem?_getD]
  cases e : us[k]? with
  | none => exact .inr rfl
  | some l => exact .inl (List.mem_of_getElem? e)
theorem due_len {k : Nat} {way : Str} : (dueR rs us k way).2.2.length = us.length ∧ rs.length ≤ (dueR rs us k way).2.1.length ∧ (dueR rs us k way).2.1.length ≤ rs.length + 1 := by
  unfold dueR
  split
  · split
    · exact ⟨rfl, Nat.le_refl _, Nat.le_succ _⟩
    · refine ⟨by rw [List.length_set], ?_, ?_⟩ <;> rw [List.length_append] <;> simp
  · split
    · exact ⟨rfl, Nat.le_refl _, Nat.le_succ _⟩
    · refine ⟨by rw [List.length_set], ?_, ?_⟩ <;> rw [List.length_set] <;> omega
theorem due_un {k : Nat} {way : Str} (hu : ∀ l ∈ us, ∀ n ∈ l, n < rs.length) : ∀ l ∈ (dueR rs us k way).2.2, ∀ n ∈ l, n < (dueR rs us k way).2.1.length := by
  have hg : ∀ n ∈ us.getD k [], n < rs.length := fun n hn => by
    rcases getD_mem_or us k with h | h
    · exact hu _ h n hn
    · rw [h] at hn; cases hn
  have hw : ∀ n ∈ wayR rs us k way, n < rs.length := fun n hn => by
    unfold wayR at hn
    split at hn
    · exact mineR_lt hn
    · exact hg n hn
  intro l hl n hn
  have l2 := (due_len (rs := rs) (us := us) (k := k) (way := way)).2.1
  refine Nat.lt_of_lt_of_le ?_ l2
  unfold dueR at hl
  split at hl
  · split at hl
    · exact hu l hl n hn
    · rcases List.mem_or_eq_of_mem_set hl with h | h
      · exact hu l h n hn
      · rw [h] at hn; cases hn
  · split at hl
    · exact hu l hl n hn
    · rename_i m eg
      rcases List.mem_or_eq_of_mem_set hl with h | h
      · exact hu l h n hn
      · rw [h] at hn
        split at hn
        · rcases List.mem_append.mp hn with q | q
          · exact hg n q
          · rw [List.mem_singleton] at q
            rw [q]
            exact hw m (List.mem_of_getLast? eg)
        · exact hw n (List.dropLast_subset _ hn)
/-- lists get longer by one at most -/
theorem due_long {k m : Nat} {way : Str} (hu : ∀ l ∈ us, l.length ≤ m) : ∀ l ∈ (dueR rs us k way).2.2, l.length ≤ m + 1 := by
  have hg : (us.getD k []).length ≤ m := by
    rcases getD_mem_or us k with h | h
    · exact hu _ h
    · rw [h]; exact Nat.zero_le _
  intro l hl
  unfold dueR at hl
  split at hl
  · split at hl
    · exact Nat.le_succ_of_le (hu l hl)
    · rcases List.mem_or_eq_of_mem_set hl with h | h
      · exact Nat.le_succ_of_le (hu l h)
      · rw [h]; exact Nat.zero_le _
  · split at hl
    · exact Nat.le_succ_of_le (hu l hl)
    · rename_i n eg
      rcases List.mem_or_eq_of_mem_set hl with h | h
      · exact Nat.le_succ_of_le (hu l h)
      · rw [h]
        split
        · rw [List.length_append]
          show _ + 1 ≤ m + 1
          omega
        · rename_i c
          have e : wayR rs us k way = us.getD k [] := by unfold wayR; rw [if_neg c]
          rw [e, List.length_dropLast]
          omega
end
end TG

namespace TG
open PySem PySem.Spec PyProof.Rows L2 NdefX GenW Gx Lv
/-! ### all that stands in the law -/
abbrev Apart (cs : List (Addr × Addr)) (p : Addr) : Prop := ∀ q ∈ cs, q.2 ≠ p
section
variable {cs : List (Addr × Addr)} {H H' : Hp} {A : Addr → Prop} {p : Addr} {q : Str}
theorem tabS_kn (x : KN cs A H H') (m : Mob H A) (ne : TG.Apart cs p) (t : LamX.TabS H p q) : LamX.TabS H' p q := by
  have na : ∀ {c : Addr} {o : HO}, H c = some o → (∀ us, o ≠ .lst us) → (∀ C dx fs, o ≠ .ins C dx fs) → ¬ A c := fun h n1 n2 z => by
    rcases m _ z with ⟨us, e⟩ | ⟨C, dx, fs, e⟩ <;> rw [e] at h <;> cases h
    · exact n1 _ rfl
    · exact n2 _ _ _ rfl
  obtain ⟨ps, h1, h2, h3⟩ := t
  refine ⟨ps, x _ _ h1 (.inr ne) (na h1 (fun us z => by cases z) fun C dx fs z => by cases z), h2, fun pos cv hc => ?_⟩
  obtain ⟨c, e1, e2⟩ := h3 pos cv hc
  exact ⟨c, e1, x _ _ e2 (.inl fun ps => LamX.codeO_ne ps) (na e2 (fun us z => by unfold LamX.CodeO at z; cases z) fun C dx fs z => by unfold LamX.CodeO at z; cases z)⟩
theorem tabS_exT (x : Ex cs H H') (ne : TG.Apart cs p) (t : LamX.TabS H p q) : LamX.TabS H' p q :=
  tabS_kn (A := fun _ => False) (fun c o h n _ => x.any h n) (fun c z => z.elim) ne t
theorem kb_kn {b l : Addr} (x : KB b l H H') : KN cs (fun c => c = b ∨ c = l) H H' := fun c o h _ n => x c o h (fun z => n (.inl z)) fun z => n (.inr z)
theorem box_mobT {b l : Addr} (h : BoxAt H b l) : Mob H (fun c => c = b ∨ c = l) := by
  obtain ⟨ns, s1, e1, e2, _⟩ := h
  exact fun c z => .inl (z.elim (fun e => e ▸ ⟨_, e1⟩) fun e => e ▸ ⟨_, e2⟩)
theorem tabs_km {b l : Addr} (x : KB b l H H') (h : BoxAt H b l) (t : Tabs cs H) : Tabs cs H' := fun r hr => by
  obtain ⟨ps, h1, h2⟩ := t r hr
  have m := box_mobT h
  refine ⟨ps, x _ _ h1 (fun z => ?_) (fun z => ?_), h2⟩
  · rcases m r.2 (.inl z) with ⟨us, e⟩ | ⟨C, dx, fs, e⟩ <;> rw [h1] at e <;> cases e
  · rcases m r.2 (.inr z) with ⟨us, e⟩ | ⟨C, dx, fs, e⟩ <;> rw [h1] at e <;> cases e
theorem box_kn {b l : Addr} (h : BoxAt H b l) (x : KN cs A H H') (nb : ¬ A b) (nl : ¬ A l) : BoxAt H' b l := by
  obtain ⟨ns, s1, e1, e2, e3⟩ := h
  exact ⟨ns, s1, x _ _ e1 (.inl fun ps z => by cases z) nb, x _ _ e2 (.inl fun ps z => by cases z) nl, e3⟩
end
structure LSit (cs : List (Addr × Addr)) (B p b l tb : Addr) (a : TA) (S : TSt) (lt : LT) (rs : List Rub) (us : List (List Nat)) (H : Hp) : Prop where
  box : BoxAt H b l
  tab : TabD B H tb a S
  law : LawT H lt rs us
  tbs : Tabs cs H
  lam : LamX.TabS H p lawQ
  d1 : ∀ c, ownT tb a c → ¬ ownL lt c ∧ c ≠ b ∧ c ≠ l
  d2 : ∀ c, ownL lt c → c ≠ b ∧ c ≠ l
section
variable {cs : List (Addr × Addr)} {B p b l tb : Addr} {a a' : TA} {S S' : TSt} {lt lt' : LT} {rs rs' : List Rub} {us us' : List (List Nat)} {H H' : Hp}
theorem LSit.ex (o : LSit cs B p b l tb a S lt rs us H) (ne : TG.Apart cs p) (x : Ex cs H H') : LSit cs B p b l tb a S lt rs us H' :=
  ⟨box_kn (A := fun _ => False) o.box (fun c u h n _ => x.any h n) (fun z => z) (fun z => z), o.tab.gw x.ext, o.law.gw x.ext, x.tab, tabS_exT x ne o.lam, o.d1, o.d2⟩
theorem LSit.same (o : LSit cs B p b l tb a S lt rs us H) (ne : TG.Apart cs p) (x : Same H H') : LSit cs B p b l tb a S lt rs us H' := o.ex ne (same_ex x o.tbs)
theorem LSit.draw (o : LSit cs B p b l tb a S lt rs us H) (ne : TG.Apart cs p) (hB : BoxAt H' b l) (x : KB b l H H') : LSit cs B p b l tb a S lt rs us H' :=
  ⟨hB, o.tab.km (kb_kn (cs := cs) x).w (box_mobT o.box) fun c hc z => by have := o.d1 c hc; rcases z with z | z; exact this.2.1 z; exact this.2.2 z,
    o.law.km (kb_kn (cs := cs) x).w (box_mobT o.box) fun c hc z => by have := o.d2 c hc; rcases z with z | z; exact this.1 z; exact this.2 z,
    tabs_km x o.box o.tbs, tabS_kn (kb_kn x) (box_mobT o.box) ne o.lam, o.d1, o.d2⟩
/-- the table goes on -/
theorem LSit.goes (o : LSit cs B p b l tb a S lt rs us H) (ne : TG.Apart cs p) (x : KN cs (ownT tb a) H H') (ow : ∀ c, ownT tb a' c → ownT tb a c ∨ H c = none) (t : Tabs cs H') (h : TabD B H' tb a' S') : LSit cs B p b l tb a' S' lt rs us H' := by
  have nb : ¬ ownT tb a b := fun z => (o.d1 b z).2.1 rfl
  have nl : ¬ ownT tb a l := fun z => (o.d1 l z).2.2 rfl
  have mb : ∀ c, c = b ∨ c = l → H c ≠ none := fun c z e => by
    rcases box_mobT o.box c z with ⟨_, w⟩ | ⟨_, _, _, w⟩ <;> rw [e] at w <;> cases w
  refine ⟨box_kn o.box x nb nl, h, o.law.km x.w o.tab.mob fun c hc z => (o.d1 c z).1 hc, t, tabS_kn x o.tab.mob ne o.lam, fun c hc => ?_, o.d2⟩
  rcases ow c hc with z | z
  · exact o.d1 c z
  · refine ⟨fun w => ?_, fun e => mb c (.inl e) z, fun e => mb c (.inr e) z⟩
    rcases o.law.mob c w with ⟨_, e⟩ | ⟨_, _, _, e⟩ <;> rw [z] at e <;> cases e
/-- what the law keeps goes on -/
theorem LSit.due (o : LSit cs B p b l tb a S lt rs us H) (ne : TG.Apart cs p) (x : KN cs (ownL lt) H H') (ow : ∀ c, ownL lt' c → ownL lt c ∨ H c = none) (t : Tabs cs H') (h : LawT H' lt' rs' us') : LSit cs B p b l tb a S lt' rs' us' H' := by
  have mb : ∀ c, c = b ∨ c = l → H c ≠ none := fun c z e => by
    rcases box_mobT o.box c z with ⟨_, w⟩ | ⟨_, _, _, w⟩ <;> rw [e] at w <;> cases w
  refine ⟨box_kn o.box x (fun z => (o.d2 b z).1 rfl) (fun z => (o.d2 l z).2 rfl), o.tab.km x.w o.law.mob fun c hc z => (o.d1 c hc).1 z, h, t, tabS_kn x o.law.mob ne o.lam, fun c hc => ⟨fun w => ?_, (o.d1 c hc).2⟩, fun c hc => ?_⟩
  · rcases ow c w with z | z
    · exact (o.d1 c hc).1 z
    · rcases o.tab.mob c hc with ⟨_, e⟩ | ⟨_, _, _, e⟩ <;> rw [z] at e <;> cases e
  · rcases ow c hc with z | z
    · exact o.d2 c z
    · exact ⟨fun e => mb c (.inl e) z, fun e => mb c (.inr e) z⟩
end
end TG

namespace TG
open PySem PySem.Spec PyProof.Rows L2 NdefX GenW Gx Lv
/-! ### the law's lambdas, told -/
theorem lokx_mono {P : Program} {w : World} {K : PySem.W.Frag} {mg : Str → Option Value} {base : Heap} {k k' : Nat} {f : Addr} {F : NF} {e : Expr} {sp : Sp} (L : LOkX P w K mg base k f F e sp) (h : k ≤ k') : LOkX P w K mg base k' f F e sp :=
  ⟨fun A outer s H Q E hr e0 h1 h2 hs => L.run A outer s H Q E (hr.mono h) e0 h1 h2 hs⟩
theorem del_add {H : Hp} {cl : List (Addr × Obj)} (un : ∀ c o, cl.lookup c = some o → H c = none) : delC (addC H cl) cl = H := by
  funext b
  cases r : cl.lookup b with
  | some u => rw [delC_in r, un b u r]
  | none => rw [delC_out r, addC_out r]
section
variable {P : Program} {w : World} {K : PySem.W.Frag} {mg : Str → Option Value} {base : Heap} {cs : List (Addr × Addr)} {B C : Addr}
theorem told_rub {cells : List (Str × Addr)} {N : List Str} {σ : L2.St} {cl : List (Addr × Obj)} {H : Hp} {f c' g tb : Addr} {h : Nat} {a : TA} {S : TSt} {lc : List (Str × Addr)} {fdg : FuncData} {Q : VK} {E : XK} {qn : Str}
    (X : TabC K B) (M : Meth K B "rub" g) (G : FnOk P w K mg base (L2.CX P w) 12 g fdg ["self", "hand"] (spTRub cs B C)) (bd : Binds K fdg ["self", "hand"] [])
    (T : ToldC cells N cap1 σ cl) (un : ∀ c o, cl.lookup c = some o → H c = none) (hF : lc = cloFrom cells lawL1.2.2.names []) (hN : N[5]? = some ("_law_table" : Str)) (hN2 : N[7]? = some ("_law_hand" : Str)) (hσ : σ[5]? = some (some (.ref tb))) (hσ2 : σ[7]? = some (some (.int (h : Nat))))
    (hf : H f = some (FnL f ⟨"<lambda>", qn, lawL1.1, [], lawL1.2.2, lc, c'⟩ lawL1.2.1)) (hc : H c' = some (LamX.CodeO c' qn))
    (hT : Tabs cs H) (hD : TabD B H tb a S) (hO : TOk S) (hh : h < S.spots.length)
    (ky : ∀ m, nearR S h (-1) = some m → SetOk S S.signs S.order (S.deeds ++ [((h, ("" : Str), m, true) : Deed)]) ∧ Went cs B H tb a (rubR S h m) fun H' => (∀ c o, cl.lookup c = some o → H' c = none) → Q .non (addC H' cl))
    (kn : nearR S h (-1) = none → ∀ H', Ex cs H H' → (∀ c o, cl.lookup c = some o → H' c = none) → Q (.str "none") (addC H' cl)) :
    spTold2 P w K mg base C 14 [.ref f] (addC H cl) Q E := by
  refine ⟨f, _, _, _, rfl, add_at un hf, add_at un hc, lokx_mono (lok_r X M G bd) (by decide), fun Z E2 hZ hE => ?_⟩
  refine ⟨rfl, tb, h, cl, caught_of T hF (fun y hy => sc_l1.free (y, .free) hy rfl) (fun y hy => PySem.mem_of_lookup (sc_l1.frk y hy)) (fun y hy => hy) rfl (fun c o q => addC_in q) (fun i y v q1 q2 => ?_), ?_⟩
  · match i, q1, q2 with
    | 0, q1, q2 =>
      cases q1
      cases q2
      exact ⟨5, hN, hσ⟩
    | 1, q1, q2 =>
      cases q1
      cases q2
      exact ⟨7, hN2, hσ2⟩
    | i + 2, q1, _ => simp at q1
  rw [del_add un]
  refine ⟨tb, h, a, S, rfl, hT, hD, hO, hh, fun m e => ⟨(ky m e).1, fun a' H' x1 x2 x3 x4 x5 hu => hZ _ _ ((ky m e).2 a' H' x1 x2 x3 x4 x5 hu)⟩, fun e H' x hu => hE _ (kn e H' x hu)⟩
theorem told_ba {cells : List (Str × Addr)} {N : List Str} {σ : L2.St} {cl : List (Addr × Obj)} {H : Hp} {f c' g1 g2 tb : Addr} {h : Nat} {way : Str} {a : TA} {S : TSt} {lc : List (Str × Addr)} {fd1 fd2 : FuncData} {Q : VK} {E : XK} {qn : Str}
    (X : TabC K B) (M1 : Meth K B "back" g1) (G1 : FnOk P w K mg base CX0 13 g1 fd1 ["self", "hand"] (spTBack cs B)) (b1 : Binds K fd1 ["self", "hand"] [])
    (M2 : Meth K B "again" g2) (G2 : FnOk P w K mg base CX0 13 g2 fd2 ["self", "hand"] (spTAgain cs B)) (b2 : Binds K fd2 ["self", "hand"] [])
    (T : ToldC cells N cap2 σ cl) (un : ∀ c o, cl.lookup c = some o → H c = none) (hF : lc = cloFrom cells lawL2.2.2.names []) (hN : N[5]? = some ("_law_table" : Str)) (hN2 : N[7]? = some ("_law_hand" : Str)) (hN3 : N[9]? = some ("_law_way" : Str)) (hσ : σ[5]? = some (some (.ref tb))) (hσ2 : σ[7]? = some (some (.int (h : Nat)))) (hσ3 : σ[9]? = some (some (.str way)))
    (hf : H f = some (FnL f ⟨"<lambda>", qn, lawL2.1, [], lawL2.2.2, lc, c'⟩ lawL2.2.1)) (hc : H c' = some (LamX.CodeO c' qn))
    (hT : Tabs cs H) (hD : TabD B H tb a S) (hO : TOk S) (hh : h < S.spots.length)
    (kb : way = "back" → (∀ n ∈ stR S.deeds h S.deeds.length, SetOk S S.signs S.order (turnR S n false)) ∧ Went cs B H tb a (backR S h).2 fun H' => (∀ c o, cl.lookup c = some o → H' c = none) → Q (.bl (backR S h).1) (addC H' cl))
    (ka : way ≠ "back" → (∀ n ∈ S.undone.getD h [], SetOk S S.signs S.order (turnR S n true)) ∧ Went cs B H tb a (againR S h).2 fun H' => (∀ c o, cl.lookup c = some o → H' c = none) → Q (.bl (againR S h).1) (addC H' cl)) :
    spTold2 P w K mg base C 14 [.ref f] (addC H cl) Q E := by
  refine ⟨f, _, _, _, rfl, add_at un hf, add_at un hc, lok_b X M1 G1 b1 M2 G2 b2, fun Z E2 hZ hE => ?_⟩
  refine ⟨rfl, tb, h, way, cl, caught_of T hF (fun y hy => sc_l2.free (y, .free) hy rfl) (fun y hy => PySem.mem_of_lookup (sc_l2.frk y hy)) (fun y hy => hy) rfl (fun c o q => addC_in q) (fun i y v q1 q2 => ?_), ?_⟩
  · match i, q1, q2 with
    | 0, q1, q2 =>
      cases q1
      cases q2
      exact ⟨5, hN, hσ⟩
    | 1, q1, q2 =>
      cases q1
      cases q2
      exact ⟨7, hN2, hσ2⟩
    | 2, q1, q2 =>
      cases q1
      cases q2
      exact ⟨9, hN3, hσ3⟩
    | i + 3, q1, _ => simp at q1
  rw [del_add un]
  by_cases c : way = "back"
  · rw [if_pos c]
    exact ⟨tb, h, a, S, rfl, hT, hD, hO, hh, (kb c).1, fun a' H' x1 x2 x3 x4 x5 hu => hZ _ _ ((kb c).2 a' H' x1 x2 x3 x4 x5 hu)⟩
  · rw [if_neg c]
    exact ⟨tb, h, a, S, rfl, hT, hD, hO, hh, (ka c).1, fun a' H' x1 x2 x3 x4 x5 hu => hZ _ _ ((ka c).2 a' H' x1 x2 x3 x4 x5 hu)⟩
end
end TG

namespace TG
open PySem PySem.Spec PyProof.Rows L2 NdefX GenW Gx Lv
/-! ### a turn of the law -/
section
variable {cs : List (Addr × Addr)} {B p b l tb : Addr} {a a' : TA} {S S' : TSt} {lt lt' : LT} {rs rs' : List Rub} {us us' : List (List Nat)} {H H' : Hp}
theorem LSit.lamC (o : LSit cs B p b l tb a S lt rs us H) (ne : TG.Apart cs p) (k1 : ∀ b o, H b = some o → b ≠ p → H' b = some o) (k2 : ∀ b, H' b = none → H b = none) (t' : LamX.TabS H' p lawQ) : LSit cs B p b l tb a S lt rs us H' := by
  obtain ⟨ps0, hp0, _⟩ := id o.lam
  have nt : ∀ c u, H c = some u → NT ((p, p) :: cs) c u → H' c = some u := fun c u h n => k1 c u h fun e => by
    rcases n with n | n
    · rw [e, hp0] at h
      cases h
      exact n _ rfl
    · exact n (p, p) List.mem_cons_self e.symm
  have ext : LamX.ExtN H H' := fun c u h n => nt c u h (.inl n)
  exact ⟨box_kn (cs := (p, p) :: cs) (A := fun _ => False) o.box (fun c u h n _ => nt c u h n) (fun z => z) (fun z => z), o.tab.gw ext, o.law.gw ext, fun r hr => by
    obtain ⟨ps2, h3, h4⟩ := o.tbs r hr
    exact ⟨ps2, k1 _ _ h3 (ne r hr), h4⟩, t', o.d1, o.d2⟩
end
theorem due_dp {K : PySem.W.Frag} {H : Hp} {rs : List Rub} {us : List (List Nat)} {h : Nat} {way : Str} : ∃ d, Dp K H (dueR rs us h way).1 d ∧ d.depth < 4 ∧ dok d = true := by
  unfold dueR
  split
  · split
    · exact ⟨_, .str _, by decide, rfl⟩
    · exact ⟨_, .non, by decide, rfl⟩
  · split
    · exact ⟨_, .bl _, by decide, rfl⟩
    · exact ⟨_, .bl _, by decide, rfl⟩
section
variable {P : Program} {w : World} {K : PySem.W.Frag} {mg : Str → Option Value} {base : Heap} {cs : List (Addr × Addr)} {B C p b l : Addr}
theorem way_rub {cells : List (Str × Addr)} {N : List Str} {σ : L2.St} {cl : List (Addr × Obj)} {H : Hp} {f c' g tb : Addr} {h : Nat} {a : TA} {z : Str} {rs : List Rub} {us : List (List Nat)} {sp : List Nat} {lt : LT} {lc : List (Str × Addr)} {fdg : FuncData} {Q : VK} {E : XK} {qn way : Str} (hw : way = "rub")
    (X : TabC K B) (M : Meth K B "rub" g) (G : FnOk P w K mg base (L2.CX P w) 12 g fdg ["self", "hand"] (spTRub cs B C)) (bd : Binds K fdg ["self", "hand"] [])
    (T : ToldC cells N cap1 σ cl) (un : ∀ c o, cl.lookup c = some o → H c = none) (hF : lc = cloFrom cells lawL1.2.2.names []) (hN : N[5]? = some ("_law_table" : Str)) (hN2 : N[7]? = some ("_law_hand" : Str)) (hσ : σ[5]? = some (some (.ref tb))) (hσ2 : σ[7]? = some (some (.int (h : Nat))))
    (hf : H f = some (FnL f ⟨"<lambda>", qn, lawL1.1, [], lawL1.2.2, lc, c'⟩ lawL1.2.1)) (hc : H c' = some (LamX.CodeO c' qn))
    (ne : TG.Apart cs p) (zk : TxtOk z) (o : LSit cs B p b l tb a (gS z rs us sp) lt rs us H) (gok : TOk (gS z rs us sp)) (hs1 : ∀ s ∈ sp, s = 1) (sh1 : sp.getD h 0 = 1) (hh : h < sp.length) (h4 : sp.length ≤ 4) (hrl : rs.length ≤ 100)
    (k : ∀ (v : V) (a2 : TA) (H' : Hp), v = (dueR rs us h way).1 → LSit cs B p b l tb a2 (gS z (dueR rs us h way).2.1 (dueR rs us h way).2.2 sp) lt rs us H' → (∀ c o, cl.lookup c = some o → H' c = none) → Q v (addC H' cl)) :
    spTold2 P w K mg base C 14 [.ref f] (addC H cl) Q E := by
  subst hw
  have nr := near_rub (z := z) (sp := sp) (rs := rs) (us := us) zk sh1
  refine told_rub X M G bd T un hF hN hN2 hσ hσ2 hf hc o.tbs o.tab gok hh (fun m e => ?_) (fun e H' x hu => ?_)
  · rw [nr] at e
    cases es : stands rs with
    | true => rw [es, if_pos rfl] at e; cases e
    | false =>
      rw [es, if_neg (by decide)] at e
      cases e
      have ed : dueR rs us h "rub" = (.non, rs ++ [(h, true)], us.set h []) := by unfold dueR; rw [if_pos rfl, es, if_neg (by decide)]
      refine ⟨?_, fun a2 H' kn ow t old hD hu => ?_⟩
      · have := gS_set (rs := rs) (us := us) (sp := sp) zk (rs ++ [(h, true)]) (by rw [List.length_append]; show rs.length + 1 ≤ 9000; omega) hs1 h4
        have e2 : (gS z rs us sp).deeds ++ [((h, ("" : Str), 0, true) : Deed)] = dsOf (rs ++ [(h, true)]) := by
          show dsOf rs ++ _ = _
          unfold dsOf
          rw [List.map_append]
          rfl
        rw [e2]
        exact ⟨this.one, this.many, this.ord, this.ol, this.dm, this.dn, this.sp, this.pg, this.h4⟩
      · rw [rub_gS zk hs1 es] at hD
        exact k _ a2 H' (by rw [ed]) (o.goes ne kn ow t hD) hu
  · rw [nr] at e
    cases es : stands rs with
    | false => rw [es, if_neg (by decide)] at e; cases e
    | true =>
      have ed : dueR rs us h "rub" = (.str "none", rs, us) := by unfold dueR; rw [if_pos rfl, es, if_pos rfl]
      exact k _ a H' (by rw [ed]) (by rw [ed]; exact o.ex ne x) hu
theorem way_ba {cells : List (Str × Addr)} {N : List Str} {σ : L2.St} {cl : List (Addr × Obj)} {H : Hp} {f c' g1 g2 tb : Addr} {h : Nat} {way : Str} {a : TA} {z : Str} {rs : List Rub} {us : List (List Nat)} {sp : List Nat} {lt : LT} {lc : List (Str × Addr)} {fd1 fd2 : FuncData} {Q : VK} {E : XK} {qn : Str}
    (X : TabC K B) (M1 : Meth K B "back" g1) (G1 : FnOk P w K mg base CX0 13 g1 fd1 ["self", "hand"] (spTBack cs B)) (b1 : Binds K fd1 ["self", "hand"] [])
    (M2 : Meth K B "again" g2) (G2 : FnOk P w K mg base CX0 13 g2 fd2 ["self", "hand"] (spTAgain cs B)) (b2 : Binds K fd2 ["self", "hand"] [])
    (T : ToldC cells N cap2 σ cl) (un : ∀ c o, cl.lookup c = some o → H c = none) (hF : lc = cloFrom cells lawL2.2.2.names []) (hN : N[5]? = some ("_law_table" : Str)) (hN2 : N[7]? = some ("_law_hand" : Str)) (hN3 : N[9]? = some ("_law_way" : Str)) (hσ : σ[5]? = some (some (.ref tb))) (hσ2 : σ[7]? = some (some (.int (h : Nat)))) (hσ3 : σ[9]? = some (some (.str way)))
    (hf : H f = some (FnL f ⟨"<lambda>", qn, lawL2.1, [], lawL2.2.2, lc, c'⟩ lawL2.2.1)) (hc : H c' = some (LamX.CodeO c' qn))
    (ne : TG.Apart cs p) (zk : TxtOk z) (o : LSit cs B p b l tb a (gS z rs us sp) lt rs us H) (gok : TOk (gS z rs us sp)) (hs1 : ∀ s ∈ sp, s = 1) (hh : h < sp.length) (h4 : sp.length ≤ 4) (hrl : rs.length ≤ 100) (hun : ∀ m ∈ us, ∀ n ∈ m, n < rs.length)
    (way2 : way = "back" ∨ way = "again")
    (k : ∀ (v : V) (a2 : TA) (H' : Hp), v = (dueR rs us h way).1 → LSit cs B p b l tb a2 (gS z (dueR rs us h way).2.1 (dueR rs us h way).2.2 sp) lt rs us H' → (∀ c o, cl.lookup c = some o → H' c = none) → Q v (addC H' cl)) :
    spTold2 P w K mg base C 14 [.ref f] (addC H cl) Q E := by
  have setk : ∀ n st, n < rs.length → SetOk (gS z rs us sp) (gS z rs us sp).signs (gS z rs us sp).order (turnR (gS z rs us sp) n st) := fun n st hn => by
    rw [turn_gS hn]
    exact gS_set zk _ (by rw [List.length_set]; omega) hs1 h4
  have huk : ∀ n ∈ us.getD h [], n < rs.length := fun n hn => by
    rcases getD_mem_or us h with e | e
    · exact hun _ e n hn
    · rw [e] at hn; cases hn
  refine told_ba X M1 G1 b1 M2 G2 b2 T un hF hN hN2 hN3 hσ hσ2 hσ3 hf hc o.tbs o.tab gok hh (fun e => ⟨fun n hn => ?_, fun a2 H' kn ow t old hD hu => ?_⟩) (fun e => ⟨fun n hn => ?_, fun a2 H' kn ow t old hD hu => ?_⟩)
  · have hn : n ∈ stR (dsOf rs) h (dsOf rs).length := hn
    rw [st_mine, ds_len] at hn
    exact setk n false (mineR_lt hn)
  · subst e
    have q := back_gS (us := us) (rs := rs) zk hs1 (k := h)
    rw [q.2] at hD
    exact k _ a2 H' q.1 (o.goes ne kn ow t hD) hu
  · exact setk n true (huk n hn)
  · have e2 : way = "again" := by
      rcases way2 with q | q
      · exact absurd q e
      · exact q
    subst e2
    have q := again_gS (us := us) (rs := rs) zk hs1 (k := h) huk
    rw [q.2] at hD
    exact k _ a2 H' q.1 (o.goes ne kn ow t hD) hu
end
/-! ### what is told and due, as data -/
theorem eqv_stand (rs : List Rub) : PyData.eqv (.list ((rs.filter fun r => r.2).map rD)) (.list []) = !stands rs := by
  unfold stands
  cases e : rs.filter (fun r => r.2) with
  | nil =>
    have : rs.any (fun r => r.2) = false := by
      rw [List.any_eq_false]
      intro r hr hr2
      have : r ∈ rs.filter (fun r => r.2) := List.mem_filter.mpr ⟨hr, hr2⟩
      rw [e] at this
      cases this
    rw [this]
    rfl
  | cons r l =>
    have m : r ∈ rs.filter (fun r => r.2) := by rw [e]; simp
    have : rs.any (fun r => r.2) = true := List.any_eq_true.mpr ⟨r, (List.mem_filter.mp m).1, (List.mem_filter.mp m).2⟩
    rw [this]
    rfl
def rubV (r : Rub) : List V := [.int (r.1 : Nat), .str "", .bl r.2]
def rubD (r : Rub) : PyData := .tuple [.int (r.1 : Nat), .str "", .bool r.2]
theorem told_ds (rs : List Rub) : (dsOf rs).map toldV = rs.map rubV := by
  unfold dsOf
  rw [List.map_map]
  rfl
theorem dp_rub {K : PySem.W.Frag} {H : Hp} {t : Addr} {r : Rub} (h : H t = some (.tup (rubV r))) : Dp K H (.ref t) (rubD r) := .tup (SqT.of h) (.cons (.int _) (.cons (.str _) (.cons (.bl _) .nil)))
theorem dp_rubs {K : PySem.W.Frag} {H : Hp} : ∀ {ts : List Addr} {rs : List Rub}, ts.length = rs.length → (∀ (j : Nat) (t : Addr) (v : List V), ts[j]? = some t → (rs.map rubV)[j]? = some v → H t = some (.tup v)) → DpAll K H (ts.map V.ref) (rs.map rubD)
  | [], [], _, _ => .nil
  | [], _ :: _, h, _ => by simp at h
  | _ :: _, [], h, _ => by simp at h
  | t :: ts, r :: rs, h, k => .cons (dp_rub (k 0 t _ rfl rfl)) (dp_rubs (by simpa using h) fun j q v h1 h2 => k (j + 1) q v (by simpa using h1) (by simpa using h2))
theorem dep_rubs : ∀ l : List Rub, PyData.depthAll (l.map rubD) ≤ 1
  | [] => Nat.zero_le _
  | r :: l => by
    have h := dep_rubs l
    rw [List.map_cons]
    show max (PyData.depth (rubD r)) (PyData.depthAll (l.map rubD)) ≤ 1
    have : PyData.depth (rubD r) = 1 := rfl
    omega
theorem depth_rubs (l : List Rub) : (PyData.list (l.map rubD)).depth < 4 := by
  have := dep_rubs l
  simp only [PyData.depth]
  omega
theorem dok_rubs {l : List Rub} (h : l.length ≤ 1000) : dok (.list (l.map rubD)) = true := by
  have key : ∀ l : List Rub, dokAll (l.map rubD) = true := by
    intro l
    induction l with
    | nil => rfl
    | cons r l ih =>
      show dokAll (rubD r :: l.map rubD) = true
      simp only [dokAll, ih, Bool.and_true]
      rfl
  show (decide ((l.map rubD).length ≤ 1000) && dokAll (l.map rubD)) = true
  rw [key l, Bool.and_true, decide_eq_true_eq, List.length_map]
  exact h
theorem TupL.dps {K : PySem.W.Frag} {H0 H H' : Hp} {D : Addr} {rs : List Rub} (o : TupL H0 D (rs.map rubV) H) (x : Same H H') : Dp K H' (.ref D) (.list (rs.map rubD)) := by
  obtain ⟨ts, h1, h2, h3⟩ := (o.grow x).ts
  exact .lst (SqL.of h1) (dp_rubs (by rw [h2, List.length_map]) h3)
/-- one cell -/
theorem dp_one {K : PySem.W.Frag} {H : Hp} {r t : Addr} {z : Str} (h : SqL K H r [.ref t]) (ht : SqT K H t [.str z]) : Dp K H (.ref r) (.list [.tuple [.str z]]) := .lst h (.cons (.tup ht (.cons (.str _) .nil)) .nil)
theorem one_ok (z : Str) : (PyData.list [.tuple [.str z]]).depth < 4 ∧ dok (.list [.tuple [.str z]]) = true := ⟨by simp [PyData.depth, PyData.depthAll], by simp [dok, dokAll]⟩
theorem txt_due {c0 : Nat} {mo z : Str} {rs : List Rub} {n : Nat} (hz : (⟨#[c0]⟩ : Str) ++ mo = z) (hn : n = if stands rs = true then 0 else 1) : repS c0 n ++ mo = txtR z rs := by
  refine str_of ?_
  have e : cl (⟨#[c0]⟩ : Str) = [c0] := rfl
  rw [cl_app, cl_repS, cl_txt, ← hz, cl_app, e, hn]
  cases stands rs <;> rfl
/-- two tuples of three numbers alike -/
theorem ne_v3 {K : PySem.W.Frag} {H : Hp} {t u : Addr} {a b c : Int} {Z : VK} (h1 : H t = some (.tup [.int a, .int b, .int c])) (h2 : H u = some (.tup [.int a, .int b, .int c])) (z : Z (.bl false) H) : rNeD K (.ref t) (.ref u) H Z := by
  have d : ∀ {q : Addr}, H q = some (.tup [.int a, .int b, .int c]) → Dp K H (.ref q) (.tuple [.int a, .int b, .int c]) := fun h => .tup (SqT.of h) (.cons (.int _) (.cons (.int _) (.cons (.int _) .nil)))
  have e : PyData.eqv (.tuple [.int a, .int b, .int c]) (.tuple [.int a, .int b, .int c]) = true := SeqAt.eqv_refl _ rfl
  exact ⟨_, _, d h1, d h2, rfl, rfl, by rw [e]; exact z⟩
/-- a cut off of what is to be proved, not yet known -/
theorem cutG (G C : V → TA → Hp → Prop) {X : Prop} (f : (∀ v a H, C v a H → G v a H) → X) (g : ∀ v a H, C v a H → G v a H) : X := f g
end TG

namespace TG
open PySem PySem.Spec PyProof.Rows L2 NdefX GenW Gx Lv
/-! ### the law -/
theorem room1 {k : Nat} {A : Around} (r : Room k A) : A.units + 1 < cLine := by have := r.un; omega
section
variable {P : Program} {w : World} {K : PySem.W.Frag} {mg : Str → Option Value} {base : Heap} {cs : List (Addr × Addr)} {B C G : Addr}
def spLaw (K : PySem.W.Frag) (cs : List (Addr × Addr)) (p : Addr) : Sp := fun vs H Q _ => ∃ (a : Addr) (ns : List Int), vs = [.ref a] ∧ Tabs cs H ∧ LamX.TabS H p lawQ ∧ SqL K H a (ns.map V.int) ∧ ns.length ≤ 63 ∧ ∀ H', Q (.bl true) H'
abbrev nmLaw : List Str := ["_law_script", "_law_box", "_law_hands", "_law_sign_here", "_law_more", "_law_table", "_law_t", "_law_hand", "_law_turn", "_law_way", "_law_found", "_law_is_there", "_law_place", "_law_k", "_law_one", "_law_rub"]
theorem sc_law : FnScope nmLaw ["_law_script"] (defScope s_law) := ⟨rfl, rfl, rfl, by decide +kernel, rfl, by decide +kernel, by decide +kernel⟩
theorem key_l1 : ∀ y ∈ lawL1.2.2.names, y.2 = .free → (defScope s_law).names.lookup y.1 = some .cell := by decide +kernel
theorem key_l2 : ∀ y ∈ lawL2.2.2.names, y.2 = .free → (defScope s_law).names.lookup y.1 = some .cell := by decide +kernel
theorem key_c1 : ∀ y ∈ cap1, (defScope s_law).names.lookup y = some .cell := by decide +kernel
theorem key_c2 : ∀ y ∈ cap2, (defScope s_law).names.lookup y = some .cell := by decide +kernel
theorem ok_law {f c p g1 g2 g3 g4 g5 g6 gi gr gp ga gt gu gb gg : Addr} {fd fd1 fd2 fd3 fd4 fd5 fd6 fdi fdr fdp fda fdt fdu fdb fdg : FuncData} (T : Txt mg) (ne : TG.Apart cs p) (X : TabC K B) (F : Fun K "law" "law" s_law f fd) (hcode : fd.code = .ref c) (TB : LamX.TabB base mg c p)
    (G1 : FnOk P w K mg base CX0 1 g1 fd1 ["_law_script"] (spBegun K)) (k1 : PySem.W.keepIn K (.ref g1) = true) (b1 : Binds K fd1 ["_law_script"] []) (m1 : mg "_law_begun" = some (.ref g1))
    (G2 : FnOk P w K mg base CX0 1 g2 fd2 ["_law_box", "_law_many"] spTake) (k2 : PySem.W.keepIn K (.ref g2) = true) (b2 : Binds K fd2 ["_law_box", "_law_many"] []) (m2 : mg "_law_take" = some (.ref g2))
    (G3 : FnOk P w K mg base CX0 2 g3 fd3 ["_law_box"] spSign) (k3 : PySem.W.keepIn K (.ref g3) = true) (b3 : Binds K fd3 ["_law_box"] []) (m3 : mg "_law_sign" = some (.ref g3))
    (G4 : FnOk P w K mg base CX0 1 g4 fd4 ["_law_t", "_law_hand", "_law_way"] (spDue K cs)) (k4 : PySem.W.keepIn K (.ref g4) = true) (b4 : Binds K fd4 ["_law_t", "_law_hand", "_law_way"] []) (m4 : mg "_law_due" = some (.ref g4))
    (G5 : FnOk P w K mg base CX0 5 g5 fd5 ["_law_found", "_law_due_here"] (spAlike K 4)) (k5 : PySem.W.keepIn K (.ref g5) = true) (b5 : Binds K fd5 ["_law_found", "_law_due_here"] []) (m5 : mg "_law_alike" = some (.ref g5))
    (G6 : FnOk P w K mg base CX0 15 g6 fd6 ["_law_work"] (spTold2 P w K mg base C 14)) (k6 : PySem.W.keepIn K (.ref g6) = true) (b6 : Binds K fd6 ["_law_work"] []) (m6 : mg "_law_told" = some (.ref g6))
    (Mu : Meth K B "rub" gu) (Gu : FnOk P w K mg base (L2.CX P w) 12 gu fdu ["self", "hand"] (spTRub cs B C)) (bu : Binds K fdu ["self", "hand"] [])
    (Mb : Meth K B "back" gb) (Gb : FnOk P w K mg base CX0 13 gb fdb ["self", "hand"] (spTBack cs B)) (bb : Binds K fdb ["self", "hand"] [])
    (Mg : Meth K B "again" gg) (Gg : FnOk P w K mg base CX0 13 gg fdg ["self", "hand"] (spTAgain cs B)) (bg : Binds K fdg ["self", "hand"] [])
    (MC : Mk K B gi) (GC : FnOk P w K mg base CX0 13 gi fdi ["self", "page", "style", "hands"] (spTInit K cs B)) (bC : Binds K fdi ["self", "page", "style", "hands"] []) (mC : mg "Table" = some (.ref B))
    (Mr : Meth K B "right" gr) (Gr : FnOk P w K mg base CX0 5 gr fdr ["self", "hand"] (spTRight cs B)) (br : Binds K fdr ["self", "hand"] [])
    (Mp : Meth K B "page" gp) (Gp : FnOk P w K mg base CX0 3 gp fdp ["self"] (spTPage cs B)) (bp : Binds K fdp ["self"] [])
    (Ma : Meth K B "at" ga) (Ga : FnOk P w K mg base CX0 3 ga fda ["self", "hand"] (spTAt cs B)) (ba : Binds K fda ["self", "hand"] [])
    (Mt : Meth K B "told" gt) (Gt : FnOk P w K mg base CX0 1 gt fdt ["self"] (spTTold B)) (bt : Binds K fdt ["self"] []) :
    FnOk P w K mg base CX0 16 f fd ["_law_script"] (spLaw K cs p) := by
  refine fun_okT F hcode sc_law (fun vs H Q E h => ?_) (fun A outer s H vs Q E hr h => ?_)
  · obtain ⟨a, ns, rfl, _⟩ := h
    rfl
  · obtain ⟨a, ns, rfl, hT, hL, hS, hl, k⟩ := h
    have nd := sc_law.nd
    have hu := hr.units
    have r1 : Room 1 _ := hr.mono (by decide)
    have r2 : Room 2 _ := hr.mono (by decide)
    have r3 : Room 3 _ := hr.mono (by decide)
    have r5 : Room 5 _ := hr.mono (by decide)
    have r14 : Room 14 _ := hr.mono (by decide)
    have r15 : Room 15 _ := hr.mono (by decide)
    have hu1 := room1 hr
    refine ⟨_, pss_cons (ps_set (i := 1) nd rfl (.inr rfl) (pe_call G1 r1 (by rfl) m1 k1 b1 .nil pass0 (pa_cons (pv 0) pa_nil)))
      (pss_cons (ps_par (i := 2) (j := 3) rfl nd rfl rfl (by decide) rfl rfl (pa_cons (pe_op op_add pe_int (pe_call G2 r1 (by rfl) m2 k2 b2 .nil pass0 (pa_cons (pv 1) (pa_cons pe_int pa_nil)))) (pa_cons (pe_call G3 r2 (by rfl) m3 k3 b3 .nil pass0 (pa_cons (pv 1) pa_nil)) pa_nil)) (by rfl))
      (pss_cons (ps_set (i := 4) nd rfl (.inl rfl) (pe_join pe_str (pe_lc (own := [("_law_k", 13)]) (g := gName 13) (tt := tYes) rfl nd (pi_range1 (by rfl) T.range (pa_cons (pe_call G2 r1 (by rfl) m2 k2 b2 .nil pass0 (pa_cons (pv 1) (pa_cons pe_int pa_nil))) pa_nil)) (blkOk_by (own := [("_law_k", 13)]) (N := nmLaw) (sc := defScope s_law) (by decide +kernel)) (fun _ _ _ _ _ => pg_name (i := 13) nd rfl (Or.inl rfl)) (fun _ _ _ _ _ => pts_nil) (fun _ _ _ _ _ => pe_call G3 r2 (by rfl) m3 k3 b3 .nil pass0 (pa_cons (pv 1) pa_nil)))))
      (pss_cons (ps_asg (pe_tup (pa_cons (pe_make MC GC r14 (by rfl) mC bC .nil pass0 (pa_cons (pe_lst (pa_cons (pe_tup (pa_cons (pe_op op_add_str (pv 3) (pv 4)) pa_nil)) pa_nil)) (pa_cons (pe_tup (pa_cons pe_int (pa_cons pe_int pa_nil))) (pa_cons (pv 2) pa_nil))))
          (pa_cons (pe_disp (pps_cons pe_str (pe_lst pa_nil) (pps_cons pe_str (pe_lc (own := [("_law_hand", 7)]) (g := gName 7) (tt := tYes) rfl nd (pi_range1 (by rfl) T.range (pa_cons (pv 2) pa_nil)) (blkOk_by (own := [("_law_hand", 7)]) (N := nmLaw) (sc := defScope s_law) (by decide +kernel)) (fun _ _ _ _ _ => pg_name (i := 7) nd rfl (Or.inl rfl)) (fun _ _ _ _ _ => pts_nil) (fun _ _ _ _ _ => pe_lst pa_nil)) pps_nil)) rfl rfl (by simp) (by decide)) pa_nil))) (pg_tup rfl (pgs_cons (pg_name (i := 5) nd rfl (.inr rfl)) (pgs_cons (pg_name (i := 6) nd rfl (.inl rfl)) pgs_nil))))
      (pss_cons (ps_for PassesOwn.never rfl (pi_range1 (by rfl) T.range (pa_cons (pv 2) pa_nil)) (pg_name (i := 7) nd rfl (.inr rfl)) (pss_one (ps_expr (pe_meth (pv 5) X.cls Mr Gr r5 br .nil pass0 (pa_cons (pv 7) pa_nil)))))
      (pss_cons (ps_for PassesOwn.never rfl (pi_range1 (by rfl) T.range (pa_cons (pe_call G2 r1 (by rfl) m2 k2 b2 .nil pass0 (pa_cons (pv 1) (pa_cons pe_int pa_nil))) pa_nil)) (pg_name (i := 8) nd rfl (.inl rfl))
        (pss_cons (ps_asg (pe_tup (pa_cons (pe_call G2 r1 (by rfl) m2 k2 b2 .nil pass0 (pa_cons (pv 1) (pa_cons (pv 2) pa_nil))) (pa_cons (pe_ix ix_list (pe_lst (pa_cons pe_str (pa_cons pe_str (pa_cons pe_str (pa_cons pe_str pa_nil))))) (pe_call G2 r1 (by rfl) m2 k2 b2 .nil pass0 (pa_cons (pv 1) (pa_cons pe_int pa_nil))) (fun _ _ => rfl)) pa_nil))) (pg_tup rfl (pgs_cons (pg_name (i := 7) nd rfl (.inr rfl)) (pgs_cons (pg_name (i := 9) nd rfl (.inr rfl)) pgs_nil))))
        (pss_cons (ps_if (pt_cmpR op_eq (pv 9) pe_str (nomark _))
          (pss_one (ps_set (i := 10) nd rfl (.inl rfl) (pe_callC (names := cap1) G6 r15 (by rfl) m6 k6 b6 (fun _ _ => rfl) key_c1 (pa_cons (pe_lamC TB rfl rfl fun y hy e => .inl (key_l1 y hy e)) pa_nil))))
          (pss_one (ps_set (i := 10) nd rfl (.inl rfl) (pe_callC (names := cap2) G6 r15 (by rfl) m6 k6 b6 (fun _ _ => rfl) key_c2 (pa_cons (pe_lamC TB rfl rfl fun y hy e => .inl (key_l2 y hy e)) pa_nil)))))
        (pss_cons (ps_if (pt_not (pt_val (pe_call G5 r5 (by rfl) m5 k5 b5 .nil pass0 (pa_cons (pv 10) (pa_cons (pe_call G4 r1 (by rfl) m4 k4 b4 .nil pass0 (pa_cons (pv 6) (pa_cons (pv 7) (pa_cons (pv 9) pa_nil)))) pa_nil))))) (pss_one (ps_ret pe_bl)) pss_nil)
        (pss_cons (ps_set (i := 11) nd rfl (.inl rfl) (pe_cmpR (op_eqD hu) (pe_lc (own := [("_law_rub", 15)]) (g := gName 15) rfl nd (pi_list (pe_dget hu1 (pv 6) pe_str (fun _ _ => rfl))) (blkOk_by (own := [("_law_rub", 15)]) (N := nmLaw) (sc := defScope s_law) (by decide +kernel))
          (fun _ _ _ _ _ => pg_name (i := 15) nd rfl (Or.inl rfl)) (fun _ _ _ _ _ => pts_one (pt_val (pe_ix (r := rIxL K) ix_list (pv 15) pe_int (fun _ _ => rfl)))) (fun _ _ _ _ _ => pv 15)) (pe_lst pa_nil) (nomark _)))
        (pss_cons (ps_set (i := 12) nd rfl (.inr rfl) (pe_callTy call_int1 (by rfl) T.int (by decide +kernel) (pa_cons (pv 11) pa_nil)))
        (pss_cons (ps_if (pt_not (pt_val (pe_call G5 r5 (by rfl) m5 k5 b5 .nil pass0 (pa_cons (pe_meth0 (pv 5) X.cls Mp Gp r3 bp .nil pass0) (pa_cons (pe_lst (pa_cons (pe_tup (pa_cons (pe_op op_add_str (pe_op op_repS (pv 3) (pv 12)) (pv 4)) pa_nil)) pa_nil)) pa_nil))))) (pss_one (ps_ret pe_bl)) pss_nil)
        (pss_cons (ps_if (pt_cmpR (op_neD hu) (pe_lc (own := [("_law_one", 14)]) (g := gName 14) rfl nd (pi_range1 (by rfl) T.range (pa_cons (pv 2) pa_nil)) (blkOk_by (own := [("_law_one", 14)]) (N := nmLaw) (sc := defScope s_law) (by decide +kernel))
          (fun _ _ _ _ _ => pg_name (i := 14) nd rfl (Or.inl rfl)) (fun _ _ _ _ _ => pts_one (pt_cmpR (r := rNeD K) (op_neD hu) (pe_meth (pv 5) X.cls Ma Ga r3 ba .nil pass0 (pa_cons (pv 14) pa_nil)) (pe_tup (pa_cons pe_int (pa_cons pe_int (pa_cons (pv 12) pa_nil)))) (nomark _))) (fun _ _ _ _ _ => pv 14)) (pe_lst pa_nil) (nomark _)) (pss_one (ps_ret pe_bl)) pss_nil)
        (pss_one (ps_if (pt_not (pt_val (pe_call G5 r5 (by rfl) m5 k5 b5 .nil pass0 (pa_cons (pe_meth0 (pv 5) X.cls Mt Gt r1 bt .nil pass0) (pa_cons (pe_lc (own := [("_law_rub", 15)]) (g := gName 15) (tt := tYes) rfl nd (pi_list (pe_dget hu1 (pv 6) pe_str (fun _ _ => rfl))) (blkOk_by (own := [("_law_rub", 15)]) (N := nmLaw) (sc := defScope s_law) (by decide +kernel))
          (fun _ _ _ _ _ => pg_name (i := 15) nd rfl (Or.inl rfl)) (fun _ _ _ _ _ => pts_nil) (fun _ _ _ _ _ => pe_tup (pa_cons (pe_ix (r := rIxL K) ix_list (pv 15) pe_int (fun _ _ => rfl)) (pa_cons pe_str (pa_cons (pe_ix (r := rIxL K) ix_list (pv 15) pe_int (fun _ _ => rfl)) pa_nil))))) pa_nil))))) (pss_one (ps_ret pe_bl)) pss_nil))))))))))
      (pss_one (ps_ret pe_bl))))))), ?_⟩
    have szl : (9000 : Nat) < sizeLine := by decide
    refine ⟨_, rfl, a, ns, rfl, hS, hl, fun b l H1 hB1 x1 nb nl => ?_⟩
    have t1 := (same_ex x1 hT).tab
    have hL1 := tabS_exT (same_ex x1 hT) ne hL
    refine ⟨_, rfl, b, l, 3, rfl, hB1, by decide, by decide, fun hr0 H2 h0 h1 hB2 x2 => ?_⟩
    refine ⟨2, hr0, rfl, rfl, _, rfl, b, l, rfl, hB2, fun c0 H3 hc0 hB3 x3 => ⟨_, _, rfl, ?_⟩⟩
    have x13 := x2.trans x3
    -- the rest of the text
    refine ⟨⟨_, rfl⟩, _, rfl, b, l, 5, rfl, hB3, by decide, by decide, fun u H4 u0 u1 hB4 x4 => ⟨u, rfl, by omega, by omega, fun D nD => ?_⟩⟩
    refine lc_range (n := u.toNat) (fun i H' => OnesAt b l H3 D i H') (OnesAt.start hB4 x4 nD hB3) ?_ ?_
    · rintro i H' hi o
      refine ⟨rfl, _, rfl, b, l, rfl, o.box, fun c H9 hc hB9 x9 => ?_⟩
      obtain ⟨acc, hacc, hl, o2⟩ := o.more (c := c) hc hB9 x9
      exact ⟨acc, hacc, by omega, o2⟩
    rintro H5 o
    obtain ⟨ys, hD, h1', h2', h3'⟩ := o.done
    have ck := h3' (by omega)
    have hB5 := o.box
    have x15 := x13.trans o.keep
    have t5 := tabs_km x15 hB1 t1
    have L5 := tabS_kn (kb_kn (cs := cs) x15) (box_mobT hB1) ne hL1
    have e0 : ("" : Str).length = 0 := by decide +kernel
    have jl : (Txt.join "" ys).length ≤ 4 := by
      have e : (Txt.join "" ys).length = (ys.map fun y => y.length).sum := by
        rw [len_cl, cl_joinL]
        have e0' : cl ("" : Str) = [] := by decide +kernel
        have : ∀ l : List (List Nat), TL.joinL [] l = l.flatten := by
          intro l
          induction l with
          | nil => rfl
          | cons y ys ih =>
            cases ys with
            | nil => simp [TL.joinL]
            | cons x xs =>
              show y ++ ([] ++ TL.joinL [] (x :: xs)) = _
              rw [List.nil_append, ih]
              rfl
        rw [e0', this]
        clear h1' h2' h3' hD ck o
        induction ys with
        | nil => rfl
        | cons y ys ih => rw [List.map_cons, List.flatten_cons, List.length_append, ih, List.map_cons, List.sum_cons, ← len_cl]
      rw [e, h2']
      omega
    refine ⟨_, D, ys, rfl, rfl, .inl (SqL.of hD), by rw [e0, h2']; omega, ?_⟩
    generalize Txt.join "" ys = mo at ck jl ⊢
    clear o hD h1' h2' h3'
    -- the text, and the page of it
    have hc1 : (⟨#[c0]⟩ : Str).length = 1 := rfl
    have zl : ((⟨#[c0]⟩ : Str) ++ mo).length = mo.length + 1 := by rw [len_cl, cl_app, List.length_append, ← len_cl, ← len_cl, hc1]; omega
    have zk : TxtOk ((⟨#[c0]⟩ : Str) ++ mo) := ⟨by omega, by omega, fun c hc => by
      rw [cl_app] at hc
      rcases List.mem_append.mp hc with h | h
      · have : c = c0 := by
          have e : cl (⟨#[c0]⟩ : Str) = [c0] := rfl
          rw [e, List.mem_singleton] at h
          exact h
        rw [this]
        exact hc0
      · exact ck.sg c h⟩
    refine ⟨_, rfl, _, rfl, _, _, rfl, rfl, by omega, by show 1 ≤ sizeLine; decide, fun t nt => ⟨by show 1 ≤ sizeLine; decide, fun pg npg => ⟨by show 2 ≤ sizeLine; decide, fun st nst => ⟨_, rfl, fun tb dx ntb ndx nxt => ?_⟩⟩⟩⟩
    obtain ⟨k0, rfl⟩ := Int.eq_ofNat_of_zero_le h0
    have en : (fun i j => V.int (i + j)) 2 ((k0 : Nat) : Int) = V.int ((2 + k0 : Nat) : Nat) := by
      show V.int (2 + ((k0 : Nat) : Int)) = _
      congr 1
    rw [en]
    have hn2 : 2 + k0 ≤ 4 := by omega
    generalize hz : (⟨#[c0]⟩ : Str) ++ mo = z at zk zl nt npg nst ntb ndx ⊢
    have s1 := same_new (o := .tup [.str z]) nt
    have s2 := same_new (o := .lst [.ref t]) npg
    have s3 := same_new (o := .tup [.int 1, .int 0]) nst
    have ht6 := s3 _ _ (s2 _ _ (upd_same (H := H5) (a := t) (o := .tup [.str z])))
    have hpg6 := s3 _ _ (upd_same (H := upd H5 t (.tup [.str z])) (a := pg) (o := .lst [.ref t]))
    have hst6 : upd (upd (upd H5 t (.tup [.str z])) pg (.lst [.ref t])) st (.tup [.int 1, .int 0]) st = some (.tup [.int 1, .int 0]) := upd_same
    have s6 := same_trans s1 (same_trans s2 s3)
    generalize upd (upd (upd H5 t (.tup [.str z])) pg (.lst [.ref t])) st (.tup [.int 1, .int 0]) = H6 at s6 ht6 hpg6 hst6 ntb ndx ⊢
    clear s1 s2 s3
    have s7 : Same H6 (upd (upd H6 dx (.own tb)) tb (.ins B dx [])) := fun c u h => by rw [upd_ne (ne_of_none h ntb), upd_ne (ne_of_none h ndx)]; exact h
    have hob7 : upd (upd H6 dx (.own tb)) tb (.ins B dx []) tb = some (.ins B dx []) := upd_same
    generalize upd (upd H6 dx (.own tb)) tb (.ins B dx []) = H7 at s7 hob7 ⊢
    have s57 := same_trans s6 s7
    have e7 := same_ex s57 t5
    have L7 := tabS_exT e7 ne L5
    have ok := rows_one zk.len zk.sg
    have ez : pageT [[z]] = z := page_one
    refine ⟨tb, pg, st, dx, [t], [[z]], 1, 0, 2 + k0, rfl, e7.tab, hob7, ⟨SqL.of (s7 _ _ hpg6), rfl, fun i q w q1 q2 => ?_⟩, ok.1, ⟨SqT.of (s7 _ _ hst6), by decide, by decide, by decide, by decide⟩, by omega, hn2, fun aT H8 kp8 ow8 t8 old8 hD8 => ⟨rfl, ?_⟩⟩
    · match i, q1, q2 with
      | 0, q1, q2 =>
        cases q1
        cases q2
        exact SqT.of (s7 _ _ ht6)
      | i + 1, q1, _ => simp at q1
    rw [ez] at hD8
    have kn8 : KN cs (fun c => c = tb) H7 H8 := fun c u h n m => kp8 c u h n m
    have mtb : Mob H7 (fun c => c = tb) := fun c hc => .inr ⟨_, _, _, hc ▸ hob7⟩
    have L8 := tabS_kn kn8 mtb ne L7
    have hB7 : BoxAt H7 b l := box_kn (cs := cs) (A := fun _ => False) hB5 (KN.same s57) (fun z => z) fun z => z
    have btb : b ≠ tb ∧ l ≠ tb := by
      obtain ⟨ns', s', e1, e2, _⟩ := hB7
      exact ⟨(fun e => by rw [e, hob7] at e1; cases e1), fun e => by rw [e, hob7] at e2; cases e2⟩
    have hB8 := box_kn hB7 kn8 btb.1 btb.2
    clear kn8 mtb kp8
    -- what the law keeps
    refine fun td ntd => ⟨small0, fun rl nrl => ⟨_, rfl, _, rfl, by omega, by omega, fun ul nul => ?_⟩⟩
    have y1 := same_new (o := .dK []) ntd
    have y2 := same_new (o := .lst []) nrl
    have y12 := same_trans y1 y2
    have htd9 := y2 _ _ (upd_same (H := H8) (a := td) (o := .dK []))
    have hrl9 : upd (upd H8 td (.dK [])) rl (.lst []) rl = some (.lst []) := upd_same
    have nrl8 : H8 rl = none := same_old y1 nrl
    generalize upd (upd H8 td (.dK [])) rl (.lst []) = H9 at y12 htd9 hrl9 nul ⊢
    have nul8 : H8 ul = none := same_old y12 nul
    clear y1 y2
    refine lc_range (n := ((2 + k0 : Nat) : Int).toNat) (fun i H' => Same H9 H' ∧ ∃ ua : List Addr, H' ul = some (.lst (ua.map V.ref)) ∧ ua.length = i ∧ ua.Nodup ∧ ∀ u ∈ ua, H' u = some (.lst []) ∧ H9 u = none ∧ u ≠ ul) ⟨same_new nul, [], upd_same, rfl, List.nodup_nil, fun u hu => by cases hu⟩ ?_ ?_
    · rintro i H' hi ⟨x, ua, w1, w2, w3, w4⟩
      refine ⟨rfl, small0, fun u nu => ?_⟩
      have nuD : u ≠ ul := fun e => by rw [e, w1] at nu; cases nu
      have nu13 := same_old x nu
      have y := same_new (o := .lst []) nu
      refine ⟨_, y _ _ w1, by rw [List.length_map]; omega, same_upd (same_trans x y) nul, ua ++ [u], by rw [upd_same, List.map_append]; rfl, by rw [List.length_append, w2]; rfl, ?_, fun v hv => ?_⟩
      · rw [List.nodup_append]
        refine ⟨w3, by simp, fun a ha b hb => ?_⟩
        rw [List.mem_singleton] at hb
        rw [hb]
        exact fun e => by have := (w4 a ha).1; rw [e, nu] at this; cases this
      · rcases List.mem_append.mp hv with h | h
        · obtain ⟨a1, a2, a3⟩ := w4 v h
          exact ⟨by rw [upd_ne a3]; exact y _ _ a1, a2, a3⟩
        · rw [List.mem_singleton] at h
          subst h
          exact ⟨by rw [upd_ne nuD, upd_same], nu13, nuD⟩
    rintro H10 ⟨x10, ua, w1, w2, w3, w4⟩
    have w2' : ua.length = 2 + k0 := by omega
    refine ⟨x10 _ _ htd9, [(.inr "rubs", .ref rl), (.inr "undone", .ref ul)], rfl, by show 2 ≤ 15; decide, ?_⟩
    have hrl10 := x10 _ _ hrl9
    have htd10 := x10 _ _ htd9
    have x810 := same_trans y12 x10
    have s11 : Same H8 (upd H10 td (.dK [(.inr "rubs", .ref rl), (.inr "undone", .ref ul)])) := same_upd x810 ntd
    have tdn : ∀ {c : Addr} {xs : List V}, H10 c = some (.lst xs) → upd H10 td (.dK [(.inr "rubs", .ref rl), (.inr "undone", .ref ul)]) c = some (.lst xs) := fun h => by
      rw [upd_ne (fun e => by rw [e, htd10] at h; cases h)]
      exact h
    have hrl11 := tdn hrl10
    have hul11 := tdn w1
    have hua11 : ∀ u ∈ ua, _ := fun u hu => tdn (w4 u hu).1
    have htd11 : upd H10 td (.dK [(.inr "rubs", .ref rl), (.inr "undone", .ref ul)]) td = some (.dK [(.inr "rubs", .ref rl), (.inr "undone", .ref ul)]) := upd_same
    have em : mergeK [] [((.inr "rubs" : Key), V.ref rl), (.inr "undone", V.ref ul)] = [(.inr "rubs", .ref rl), (.inr "undone", .ref ul)] := rfl
    rw [em]
    generalize upd H10 td (.dK [(.inr "rubs", .ref rl), (.inr "undone", .ref ul)]) = H11 at s11 hrl11 hul11 hua11 htd11 ⊢
    have law11 : LawT H11 ⟨td, rl, ul, [], ua⟩ [] (List.replicate (2 + k0) []) := by
      refine ⟨htd11, hrl11, hul11, rfl, by rw [List.length_replicate]; exact w2', (fun i q r e _ => by cases e), fun i q m q1 q2 => ?_, ?_⟩
      · have : m = [] := by
          rw [List.getElem?_replicate] at q2
          split at q2
          · cases q2; rfl
          · cases q2
        rw [this]
        exact hua11 q (List.mem_of_getElem? q1)
      · show (rl :: ul :: ([] ++ ua)).Nodup
        rw [List.nil_append, List.nodup_cons, List.nodup_cons, List.mem_cons]
        refine ⟨fun e => ?_, fun e => (w4 ul e).2.2 rfl, w3⟩
        rcases e with e | e
        · rw [← e, hrl9] at nul; cases nul
        · have := (w4 rl e).2.1
          rw [hrl9] at this
          cases this
    have own8 : ∀ c, ownL ⟨td, rl, ul, [], ua⟩ c → H8 c = none := fun c hc => by
      have hc : c ∈ rl :: ul :: ([] ++ ua) := hc
      rcases List.mem_cons.mp hc with e | e
      · rw [e]; exact nrl8
      rcases List.mem_cons.mp e with e | e
      · rw [e]; exact nul8
      · exact same_old y12 (w4 c e).2.1
    have o11 : LSit cs B p b l tb aT (startR z (2 + k0)) ⟨td, rl, ul, [], ua⟩ [] (List.replicate (2 + k0) []) H11 := by
      have nbl : ∀ c, c = b ∨ c = l → H8 c ≠ none := fun c z e => by
        rcases box_mobT hB8 c z with ⟨_, w⟩ | ⟨_, _, _, w⟩ <;> rw [e] at w <;> cases w
      refine ⟨box_kn (cs := cs) (A := fun _ => False) hB8 (KN.same s11) (fun z => z) (fun z => z), hD8.same s11, law11, (same_ex s11 t8).tab, tabS_exT (same_ex s11 t8) ne L8, fun c hc => ⟨fun w => ?_, fun e => ?_, fun e => ?_⟩, fun c hc => ⟨fun e => nbl c (.inl e) (own8 c hc), fun e => nbl c (.inr e) (own8 c hc)⟩⟩
      · rcases hD8.mob c hc with ⟨_, e⟩ | ⟨_, _, _, e⟩ <;> rw [own8 c w] at e <;> cases e
      · rcases ow8 c hc with z | z
        · exact btb.1 (e.symm.trans z)
        · rcases box_mobT hB7 c (.inl e) with ⟨_, w⟩ | ⟨_, _, _, w⟩ <;> rw [z] at w <;> cases w
      · rcases ow8 c hc with z | z
        · exact btb.2 (e.symm.trans z)
        · rcases box_mobT hB7 c (.inr e) with ⟨_, w⟩ | ⟨_, _, _, w⟩ <;> rw [z] at w <;> cases w
    refine ⟨by show 2 ≤ sizeLine; decide, fun tt ntt => ⟨tt, _, rfl, .inl (.inl upd_same), rfl, _, _, rfl, _, _, rfl, rfl, ?_⟩⟩
    have o12 := o11.same ne (same_new (o := .tup [.ref tb, .ref td]) ntt)
    have ht12 : upd H11 tt (.tup [.ref tb, .ref td]) = upd H11 tt (.tup [.ref tb, .ref td]) := rfl
    generalize upd H11 tt (.tup [.ref tb, .ref td]) = H12 at o12 ⊢
    clear ht12
    rw [start_gS] at o12
    refine ⟨_, rfl, _, rfl, by omega, by omega, ?_⟩
    have hn : ((2 + k0 : Nat) : Int).toNat = 2 + k0 := by omega
    rw [hn]
    refine for_range (n := 2 + k0) (fun i σ H' => ∃ (c7 : Option V) (a' : TA) (sp : List Nat), σ = [some (.ref a), some (.ref b), some (.int (2 + k0 : Nat)), some (.str ⟨#[c0]⟩), some (.str mo), some (.ref tb), some (.ref td), c7, none, none, none, none, none, none, none, none] ∧ sp.length = 2 + k0 ∧ (∀ j, j < i → sp.getD j 0 = 1) ∧ (∀ j, i ≤ j → sp.getD j 0 = 0) ∧ LSit cs B p b l tb a' (gS z [] (List.replicate (2 + k0) []) sp) ⟨td, rl, ul, [], ua⟩ [] (List.replicate (2 + k0) []) H')
      ⟨none, aT, List.replicate (2 + k0) 0, rfl, List.length_replicate, fun j hj => absurd hj (Nat.not_lt_zero j), fun j _ => by rw [List.getD_eq_getElem?_getD, List.getElem?_replicate]; split <;> rfl, o12⟩ ?_ ?_
    · clear o12
      rintro i σ H' hi ⟨c7, a', sp, rfl, l1, g1', g2', o⟩
      have hu0 : ∀ m ∈ List.replicate (2 + k0) ([] : List Nat), m = [] := fun m hm => (List.mem_replicate.mp hm).2
      have hin : ∀ s ∈ sp, s = 0 ∨ s = 1 := fun s hs => by
        obtain ⟨j, hj⟩ := List.mem_iff_getElem?.mp hs
        have e : sp.getD j 0 = s := by rw [List.getD_eq_getElem?_getD, hj]; rfl
        by_cases c : j < i
        · exact .inr (e ▸ g1' j c)
        · exact .inl (e ▸ g2' j (by omega))
      have zp := zk.pos
      have ok0 : TOk (gS z [] (List.replicate (2 + k0) []) sp) := gS_ok zk (by decide) (fun s hs => by
        rw [here_gS, if_neg (by decide), List.mem_range]
        rcases hin s hs with e | e <;> omega) (by rw [l1, List.length_replicate]) (by omega) fun m hm => by
          rw [hu0 m hm]
          exact ⟨Nat.zero_le _, fun n hn => by cases hn⟩
      have nr := near_right (us := List.replicate (2 + k0) []) (sp := sp) zk (g2' i (Nat.le_refl _))
      have eg : goR1 (gS z [] (List.replicate (2 + k0) []) sp) i 1 = (true, gS z [] (List.replicate (2 + k0) []) (sp.set i 1)) := by
        unfold goR1
        rw [nr]
        rfl
      refine ⟨_, rfl, tb, a'.dx, _, rfl, o.tab.ob, rfl, _, rfl, tb, i, a', _, ?_, o.tbs, o.tab, ok0, by rw [show (gS z [] (List.replicate (2 + k0) []) sp).spots = sp from rfl, l1]; exact hi, ?_⟩
      · have e : (0 : Int) + ((i : Nat) : Int) = (i : Nat) := Int.zero_add _
        rw [e]
        rfl
      · rw [eg]
        intro a2 H2 kn ow t2 _ hD2
        refine ⟨_, a2, sp.set i 1, rfl, by rw [List.length_set]; exact l1, fun j hj => ?_, fun j hj => ?_, o.goes ne kn ow t2 hD2⟩
        · rw [List.getD_eq_getElem?_getD]
          by_cases c : j = i
          · rw [c, List.getElem?_set_self (by omega)]
            rfl
          · rw [List.getElem?_set_ne (fun e => c e.symm), ← List.getD_eq_getElem?_getD]
            exact g1' j (by omega)
        · rw [List.getD_eq_getElem?_getD, List.getElem?_set_ne (by omega), ← List.getD_eq_getElem?_getD]
          exact g2' j (by omega)
    rintro σ H13 ⟨c7, a', sp, rfl, l1, g1', _, o⟩
    have hs1 : ∀ s ∈ sp, s = 1 := fun s hs => by
      obtain ⟨j, hj⟩ := List.mem_iff_getElem?.mp hs
      have e : sp.getD j 0 = s := by rw [List.getD_eq_getElem?_getD, hj]; rfl
      exact e ▸ g1' j (by have := (List.getElem?_eq_some_iff.mp hj).1; omega)
    clear o11 o12
    refine ⟨_, rfl, b, l, 61, rfl, o.box, by decide, by decide, fun tn H14 tn0 tn1 hB14 x14 => ⟨tn, rfl, by omega, by omega, ?_⟩⟩
    have o14 := o.draw ne hB14 x14
    refine for_range (n := tn.toNat) (fun i σ H' => ∃ (c7 c8 c9 c10 c11 c12 c13 c14 c15 : Option V) (a' : TA) (lt : LT) (rs : List Rub) (us : List (List Nat)), σ = [some (.ref a), some (.ref b), some (.int (2 + k0 : Nat)), some (.str ⟨#[c0]⟩), some (.str mo), some (.ref tb), some (.ref td), c7, c8, c9, c10, c11, c12, c13, c14, c15] ∧ lt.td = td ∧ us.length = 2 + k0 ∧ rs.length ≤ i ∧ (∀ m ∈ us, m.length ≤ i) ∧ (∀ m ∈ us, ∀ n ∈ m, n < rs.length) ∧ LSit cs B p b l tb a' (gS z rs us sp) lt rs us H')
      ⟨c7, none, none, none, none, none, none, none, none, a', ⟨td, rl, ul, [], ua⟩, [], List.replicate (2 + k0) [], rfl, rfl, List.length_replicate, Nat.le_refl _, (fun m hm => by rw [(List.mem_replicate.mp hm).2]; exact Nat.zero_le _), (fun m hm n hn => by rw [(List.mem_replicate.mp hm).2] at hn; cases hn), o14⟩ ?_ ?_
    · clear o14 o
      rintro i σ H15 hi ⟨c7, c8, c9, c10, c11, c12, c13, c14, c15, a', lt, rs, us, rfl, htd, hul, hrl, hum, hun, o⟩
      refine ⟨_, rfl, _, rfl, b, l, _, rfl, o.box, by omega, by omega, fun hd H16 hd0 hd1 hB16 x16 => ?_⟩
      have o16 := o.draw ne hB16 x16
      obtain ⟨h, rfl⟩ := Int.eq_ofNat_of_zero_le hd0
      refine ⟨by show 4 ≤ sizeLine; decide, fun wl nwl => ?_⟩
      have o17 := o16.same ne (same_new (o := .lst [V.str "rub", V.str "rub", V.str "back", V.str "again"]) nwl)
      have hwl : upd H16 wl (.lst [V.str "rub", V.str "rub", V.str "back", V.str "again"]) wl = some (.lst ((["rub", "rub", "back", "again"] : List Str).map fun w => V.str w)) := upd_same
      have nwb := new_ne o16.box nwl
      show tCall spTake _ _ _ _ (upd H16 wl (.lst [V.str "rub", V.str "rub", V.str "back", V.str "again"])) _
      generalize upd H16 wl (.lst [V.str "rub", V.str "rub", V.str "back", V.str "again"]) = H17 at o17 hwl ⊢
      refine ⟨_, rfl, b, l, 4, rfl, o17.box, by decide, by decide, fun wi H18 wi0 wi1 hB18 x18 => ?_⟩
      have o18 := o17.draw ne hB18 x18
      have hwl18 := x18 wl _ hwl nwb.1 nwb.2
      obtain ⟨way, hway, eway⟩ := pick (xs := (["rub", "rub", "back", "again"] : List Str)) (i := wi) wi0 wi1
      refine ⟨wl, _, _, .str way, rfl, rfl, SqL.of hwl18, atI_map (f := fun w => V.str w) eway, by show 2 ≤ sizeLine; decide, fun pt npt => ⟨pt, _, rfl, .inl (.inl upd_same), rfl, _, _, rfl, _, _, rfl, rfl, ?_⟩⟩
      have o19 := o18.same ne (same_new (o := .tup [.int (h : Nat), .str way]) npt)
      generalize upd H18 pt (.tup [.int (h : Nat), .str way]) = H19 at o19 ⊢
      have hh : h < 2 + k0 := by omega
      have way3 : way = "rub" ∨ way = "back" ∨ way = "again" := by
        simp only [List.mem_cons, List.not_mem_nil, or_false] at hway
        rcases hway with e | e | e | e
        · exact .inl e
        · exact .inl e
        · exact .inr (.inl e)
        · exact .inr (.inr e)
      clear o16 o17 o18 hwl hwl18
      have gok : TOk (gS z rs us sp) := gS_ok zk (by omega) (fun s hs => by rw [hs1 s hs]; exact one_here zk) (by rw [l1, hul]) (by omega) fun m hm => ⟨by have := hum m hm; omega, hun m hm⟩
      have sh1 : sp.getD h 0 = 1 := g1' h (by omega)
      have rl100 : rs.length ≤ 100 := by omega
      have hu2 : ∀ m ∈ us, m.length ≤ 1000 ∧ ∀ n ∈ m, n < rs.length := fun m hm => ⟨by have := hum m hm; omega, hun m hm⟩
      have e1 := due_len (rs := rs) (us := us) (k := h) (way := way)
      have e2 := due_un (k := h) (way := way) hun
      have e3 := due_long (rs := rs) (k := h) (way := way) hum
      refine' cutG _ (fun v a2 H' => v = (dueR rs us h way).1 ∧ LSit cs B p b l tb a2 (gS z (dueR rs us h way).2.1 (dueR rs us h way).2.2 sp) lt rs us H') (fun rest => _) _
      rotate_left
      · refine ⟨_, rfl, rfl, _, rfl, ?_⟩
        rw [str_way]
        by_cases c : way = "rub"
        · rw [decide_eq_true c]
          refine iteT ⟨o19.lam, fun f1 cc H20 e1 e2 t1 nf hf hc cl Tc un => ?_⟩
          refine way_rub c X Mu Gu bu Tc un rfl rfl rfl rfl rfl hf hc ne zk (o19.lamC ne e1 e2 t1) gok hs1 sh1 (by omega) (by omega) rl100 fun v a2 H' ev o2 hu told => ?_
          rw [del_add hu]
          exact rest v a2 H' ⟨ev, o2⟩
        · rw [decide_eq_false c]
          have way2 : way = "back" ∨ way = "again" := by
            rcases way3 with q | q
            · exact absurd q c
            · exact q
          refine iteF ⟨o19.lam, fun f1 cc H20 e1 e2 t1 nf hf hc cl Tc un => ?_⟩
          refine way_ba X Mb Gb bb Mg Gg bg Tc un rfl rfl rfl rfl rfl rfl rfl hf hc ne zk (o19.lamC ne e1 e2 t1) gok hs1 (by omega) (by omega) rl100 hun way2 fun v a2 H' ev o2 hu told => ?_
          rw [del_add hu]
          exact rest v a2 H' ⟨ev, o2⟩
      rintro v a2 H20 ⟨ev, o20⟩
      refine ⟨_, rfl, _, rfl, _, rfl, _, rfl, lt, rs, us, h, way, by rw [htd]; rfl, o20.tbs, o20.law, by omega, by omega, hu2, fun lt2 H21 etd kn ow t21 old21 law2 => ?_⟩
      have o21 := o20.due ne kn ow t21 law2
      obtain ⟨dt, q1, q2, q3⟩ : ∃ d, Dp K H21 (dueR rs us h way).1 d ∧ d.depth < 4 ∧ dok d = true := due_dp
      refine ⟨_, _, dt, rfl, by rw [ev]; exact q1, q1, q2, q3, true, rfl, iteF ?_⟩
      generalize hd2 : dueR rs us h way = du at o21 e1 e2 e3
      clear q1 q2 q3 ev law2 kn ow old21 t21 o20 hd2
      obtain ⟨dv, rs2, us2⟩ := du
      dsimp only at o21 e1 e2 e3
      have etd2 : lt2.td = td := by rw [etd, htd]
      have gR : DGet H21 td (.str "rubs") (some (.ref lt2.rl)) := etd2 ▸ o21.law.getR
      have rl2 : rs2.length ≤ 100 := by omega
      have gok2 : TOk (gS z rs2 us2 sp) := gS_ok zk (by omega) (fun s hs => by rw [hs1 s hs]; exact one_here zk) (by omega) (by omega) fun m hm => ⟨by have := e3 m hm; omega, e2 m hm⟩
      have hl2 : (lt2.ra.map V.ref).length = rs2.length := by rw [List.length_map]; exact o21.law.rn
      refine ⟨_, rfl, td, _, rfl, gR, lt2.rl, rfl, ⟨_, SqL.of o21.law.rl⟩, fun D2 nD2 => lc_list (xs := lt2.ra.map V.ref) (fun i H' => Same H21 H' ∧ ∃ ts : List Addr, H' D2 = some (.lst (ts.map V.ref)) ∧ ts.length ≤ i ∧ DpAll K H21 (ts.map V.ref) (((rs2.take i).filter fun r => r.2).map rD)) ⟨same_new nD2, [], upd_same, Nat.zero_le _, .nil⟩ (fun i H' _ x => SqL.of (x.1 _ _ o21.law.rl)) ?_ ?_⟩
      · rintro i v H' hv ⟨x, ts, w1, w2, w3⟩
        obtain ⟨t, ht, rfl⟩ := get_map hv
        have li := (List.getElem?_eq_some_iff.mp ht).1
        obtain ⟨r, hr⟩ := getP (xs := rs2) (i := i) (by rw [← o21.law.rn]; exact li)
        have lr := (List.getElem?_eq_some_iff.mp hr).1
        have h3 := o21.law.ra i t r ht hr
        refine ⟨rfl, _, rfl, t, _, _, .bl r.2, rfl, rfl, SqL.of (x _ _ h3), atI_nat (j := 1) rfl, r.2, rfl, ?_⟩
        rw [List.take_add_one, hr, Option.toList_some, List.filter_append, List.filter_cons, List.filter_nil]
        cases e : r.2 with
        | true =>
          refine iteT ⟨_, rfl, _, w1, by rw [List.length_map]; omega, same_upd x nD2, ts ++ [t], by rw [upd_same, List.map_append]; rfl, by rw [List.length_append]; simp; omega, ?_⟩
          rw [if_pos rfl, List.map_append, List.map_append]
          exact dp_app w3 (.cons (by have := Dp.lst (K := K) (SqL.of h3) (.cons (.int _) (.cons (.bl _) .nil)); exact this) .nil)
        | false =>
          refine iteF ⟨x, ts, w1, by omega, ?_⟩
          simpa using w3
      rintro H22 ⟨x22, ts, w1, w2, w3⟩
      have e0 : rs2.take (lt2.ra.map V.ref).length = rs2 := List.take_of_length_le (by rw [hl2]; exact Nat.le_refl _)
      rw [e0] at w3
      refine ⟨small0, fun p9 np9 => ⟨_, _, .lst (SqL.of (same_new np9 _ _ w1)) (dp_all_same (same_trans x22 (same_new np9)) w3), .lst (SqL.of upd_same) .nil, shaped_rDs _, rfl, ?_⟩⟩
      have x23 : Same H21 (upd H22 p9 (.lst [])) := same_trans x22 (same_new np9)
      generalize upd H22 p9 (.lst []) = H23 at x23 ⊢
      clear w1 w3 w2 x22 np9
      rw [eqv_stand]
      have o23 := o21.same ne x23
      refine ⟨_, rfl, .inr ⟨_, rfl, ?_⟩⟩
      have epl : (if (!stands rs2) = true then (1 : Int) else 0) = ((if stands rs2 = true then 0 else 1 : Nat) : Int) := by cases stands rs2 <;> rfl
      rw [epl]
      have at2 : ∀ j, j < 2 + k0 → atR (gS z rs2 us2 sp) j = (0, 0, if stands rs2 = true then 0 else 1) := fun j hj => at_gS zk (g1' j hj)
      have tdue : repS c0 (if stands rs2 = true then 0 else 1) ++ mo = txtR z rs2 := txt_due hz rfl
      have pl1 : (if stands rs2 = true then 0 else 1 : Nat) ≤ 1 := by split <;> decide
      generalize (if stands rs2 = true then 0 else 1 : Nat) = pl at at2 tdue pl1 ⊢
      refine ⟨_, rfl, tb, a2.dx, _, rfl, o23.tab.ob, rfl, tb, a2, _, rfl, o23.tbs, o23.tab, gok2, fun r ps H24 x24 nr hr24 hps => ?_⟩
      have o24 := o23.ex ne x24
      have tx := txt_ok (rs := rs2) zk
      have ro := rows_one tx.1 tx.2
      have hps : RowsAt ps [[txtR z rs2]] H24 := by rw [← ro.2]; exact hps
      have lrep : (repS c0 pl).length = pl := by rw [len_cl, cl_repS, List.length_replicate]
      refine ⟨_, rfl, _, rfl, c0, _, rfl, rfl, by omega, by omega, _, rfl, _, _, rfl, rfl, by rw [Int.toNat_natCast, lrep]; omega, by show 1 ≤ sizeLine; decide, fun t9 nt9 => ⟨by show 1 ≤ sizeLine; decide, fun q9 nq9 => ?_⟩⟩
      have ett : repS c0 ((pl : Nat) : Int).toNat ++ mo = txtR z rs2 := by rw [Int.toNat_natCast]; exact tdue
      obtain ⟨t0, rfl⟩ : ∃ t0, ps = [t0] := by
        have := hps.len
        match ps, this with
        | [t0], _ => exact ⟨t0, rfl⟩
      have s9 := same_new (o := .tup [.str (repS c0 ((pl : Nat) : Int).toNat ++ mo)]) nt9
      have t9' : upd H24 t9 (.tup [.str (repS c0 ((pl : Nat) : Int).toNat ++ mo)]) t9 = some (.tup [.str (txtR z rs2)]) := by rw [← ett]; exact upd_same
      have s10 := same_new (o := .lst [.ref t9]) nq9
      refine ⟨_, _, _, rfl, dp_one (SqL.of (s10 _ _ (s9 _ _ hr24))) (SqT.of (s10 _ _ (s9 _ _ (hps.row 0 t0 _ rfl rfl)))), dp_one (SqL.of upd_same) (SqT.of (s10 _ _ t9')), (one_ok _).1, (one_ok _).2, true, rfl, iteF ?_⟩
      have o25 := o24.same ne (same_trans s9 s10)
      generalize upd (upd H24 t9 (.tup [.str (repS c0 ((pl : Nat) : Int).toNat ++ mo)])) q9 (.lst [.ref t9]) = H25 at o25 ⊢
      clear s9 s10 t9' hr24 hps nt9 nq9 ett nr x24
      -- where the hands stand
      refine ⟨_, rfl, _, rfl, by omega, by omega, fun D3 nD3 => ?_⟩
      refine lc_range (n := ((2 + k0 : Nat) : Int).toNat) (fun i H' => Ex cs H25 H' ∧ H' D3 = some (.lst [])) ⟨Ex.laid o25.tbs nD3, upd_same⟩ ?_ ?_
      · rintro j H' hj ⟨x, hD3⟩
        have o9 := o25.ex ne x
        refine ⟨rfl, _, rfl, tb, a2.dx, _, rfl, o9.tab.ob, rfl, _, rfl, tb, j, a2, _, by rw [Int.zero_add]; rfl, o9.tbs, o9.tab, gok2, by show j < sp.length; omega, fun t H26 x26 ht26 => ?_⟩
        rw [at2 j (by omega)] at ht26
        refine ⟨_, rfl, by show 3 ≤ sizeLine; decide, fun u9 nu9 => ne_v3 (a := 0) (b := 0) (c := (pl : Nat)) (same_new nu9 _ _ ht26) upd_same ⟨false, rfl, iteF ⟨?_, ?_⟩⟩⟩
        · exact x.trans (x26.trans (Ex.laid x26.tab nu9))
        · exact same_new nu9 _ _ (x26.lst hD3)
      rintro H27 ⟨x27, hD3⟩
      have o27 := o25.ex ne x27
      refine ⟨small0, fun p8 np8 => ⟨.list [], .list [], .lst (SqL.of (same_new np8 _ _ hD3)) .nil, .lst (SqL.of upd_same) .nil, rfl, rfl, false, rfl, iteF ?_⟩⟩
      have o28 := o27.same ne (same_new (o := .lst []) np8)
      generalize upd H27 p8 (.lst []) = H28 at o28 ⊢
      clear hD3 x27 o27 o25 nD3 np8
      -- what it tells of its deeds
      refine ⟨_, rfl, tb, a2.dx, _, rfl, o28.tab.ob, rfl, tb, a2, _, rfl, o28.tab, gok2, fun D4 H29 tl => ?_⟩
      have tl : TupL H28 D4 (rs2.map rubV) H29 := by rw [← told_ds]; exact tl
      have o29 := o28.same ne tl.sm
      have gR29 : DGet H29 td (.str "rubs") (some (.ref lt2.rl)) := etd2 ▸ o29.law.getR
      refine ⟨_, rfl, td, _, rfl, gR29, lt2.rl, rfl, ⟨_, SqL.of o29.law.rl⟩, fun D5 nD5 => lc_list (xs := lt2.ra.map V.ref) (fun i H' => TupL H29 D5 ((rs2.take i).map rubV) H') (TupL.start nD5) (fun i H' _ x => SqL.of (x.sm _ _ o29.law.rl)) ?_ ?_⟩
      · rintro j v9 H' hv w
        obtain ⟨t, ht, rfl⟩ := get_map hv
        have li := (List.getElem?_eq_some_iff.mp ht).1
        obtain ⟨r9, hr⟩ := getP (xs := rs2) (i := j) (by rw [← o29.law.rn]; exact li)
        have lr := (List.getElem?_eq_some_iff.mp hr).1
        have h3 := w.sm _ _ (o29.law.ra j t r9 ht hr)
        refine ⟨rfl, _, rfl, t, _, _, .int (r9.1 : Nat), rfl, rfl, SqL.of h3, atI_nat (j := 0) rfl, _, rfl, t, _, _, .bl r9.2, rfl, rfl, SqL.of h3, atI_nat (j := 1) rfl, by show 3 ≤ sizeLine; decide, fun u9 nu9 => ?_⟩
        obtain ⟨acc, hacc, hl9, w2⟩ := (w.grow (same_new (o := .tup (rubV r9)) nu9)).more (t := u9) (v := rubV r9) upd_same
        refine ⟨acc, hacc, by rw [hl9, List.length_map, List.length_take]; omega, ?_⟩
        rw [List.take_add_one, hr, Option.toList_some, List.map_append]
        exact w2
      rintro H30 w
      have e9 : rs2.take (lt2.ra.map V.ref).length = rs2 := List.take_of_length_le (by rw [hl2]; exact Nat.le_refl _)
      rw [e9] at w
      refine ⟨_, _, _, rfl, tl.dps w.sm, w.dps (fun _ _ e => e), depth_rubs _, dok_rubs (by omega), true, rfl, iteF ?_⟩
      exact ⟨_, _, _, _, _, _, _, _, _, a2, lt2, rs2, us2, rfl, etd2, by omega, by omega, fun m hm => by have := e3 m hm; omega, e2, o29.same ne w.sm⟩
    · rintro σ H15 ⟨c7, c8, c9, c10, c11, c12, c13, c14, c15, a', lt, rs, us, rfl, htd, hul, hrl, hum, hun, o⟩
      exact k _
end
end TG

namespace TG
open PySem PySem.Spec PyProof.Rows L2
/-! ### the head -/
def dd (i : Nat) (x : Str) : He.DefD := ⟨(x, none), x, x, defArgs (top i), defBody (top i), defScope (top i), [], []⟩
def dm (c i : Nat) (C m : Str) : He.DefD := ⟨(C, some m), m, C ++ "." ++ m, defArgs (mth c i), defBody (mth c i), defScope (mth c i), [], []⟩
def fnL : List He.DefD := [dd 20 "is_whole", dd 21 "is_sign", dd 22 "is_text_of_signs", dd 23 "is_row", dd 24 "first_misfit", dd 25 "check_page", dd 26 "check_style", dd 28 "written", dd 29 "rows_of", dd 33 "marks_there", dd 34 "those_there", dd 35 "text_of", dd 36 "first_there", dd 38 "_law_begun", dd 39 "_law_take", dd 40 "_law_alike", dd 41 "_law_sign", dd 42 "_law_told", dd 43 "_law_due", dd 44 "law", dm 32 0 "Table" "__init__", dm 32 2 "Table" "rub", dm 32 3 "Table" "back", dm 32 4 "Table" "again", dm 32 6 "Table" "right", dm 32 7 "Table" "at", dm 32 8 "Table" "page", dm 32 10 "Table" "told", dm 32 11 "Table" "check_hand", dm 32 12 "Table" "present", dm 32 13 "Table" "near", dm 32 14 "Table" "go", dm 32 15 "Table" "turn", dm 32 16 "Table" "settle"]
def faL : List He.Fa := [.glo "is_whole", .glo "is_sign", .glo "is_text_of_signs", .glo "is_row", .glo "first_misfit", .glo "check_page", .glo "check_style", .glo "written", .glo "rows_of", .glo "marks_there", .glo "those_there", .glo "text_of", .glo "first_there", .glo "_law_begun", .glo "_law_take", .glo "_law_alike", .glo "_law_sign", .glo "_law_told", .glo "_law_due", .glo "law", .int "BLANK" 32, .int "TILDE" 126, .int "PERCENT" 37, .int "MOST_ROWS" 30, .int "MOST_CELLS" 6, .int "MOST_SIGNS" 10, .int "MOST_GAP" 4, .int "MOST_LEAST" 12, .free "isinstance", .free "len", .free "range", .free "max", .free "min", .free "all", .free "str", .free "int", .free "bool", .free "list", .free "tuple", .free "enumerate", .free "ord", .glo "Table", .glo "GrowError", .glo "BadCell", .cls "Table", .mkr "Table", .exc "BadCell", .exm "BadCell" "GrowError" true, .exm "BadCell" "BadCell" true, .str "TAB" "\t", .str "LINE_END" "\n", .int "MOST_HANDS" 4, .noat "Table" "style", .noat "Table" "signs", .noat "Table" "order", .noat "Table" "there", .noat "Table" "deeds", .noat "Table" "spots", .noat "Table" "undone", .meth "Table" "rub", .meth "Table" "back", .meth "Table" "again", .meth "Table" "right", .meth "Table" "at", .meth "Table" "page", .meth "Table" "told", .meth "Table" "check_hand", .meth "Table" "present", .meth "Table" "near", .meth "Table" "go", .meth "Table" "turn", .meth "Table" "settle"]
def tfB : List He.Defn := [("is_text_of_signs", none), ("is_row", none)]
def lmL : List He.Defn := [("law", none)]
def tfL : List He.Defn := tfB ++ lmL
def exL : PySem.W.Frag → Bool := fun K => (lmL.all fun r => (tfB.all fun q => decide ((He.cT K q).2 ≠ (He.cT K r).2)) && (lmL.all fun q => decide (q = r) || decide ((He.cT K q).2 ≠ (He.cT K r).2)))
def constB (K : PySem.W.Frag) : Bool := true
def exC (K : PySem.W.Frag) : Bool := exL K && constB K
theorem subL {K : PySem.W.Frag} {q : Addr × Addr} (h : q ∈ tfB.map (He.cT K)) : q ∈ tfL.map (He.cT K) := by
  unfold tfL
  rw [List.map_append]
  exact List.mem_append_left _ h
theorem memL {K : PySem.W.Frag} {r : He.Defn} (h : r ∈ lmL) : He.cT K r ∈ tfL.map (He.cT K) := by
  unfold tfL
  rw [List.map_append]
  exact List.mem_append_right _ (List.mem_map_of_mem h)
theorem ne_of_ex {K : PySem.W.Frag} (h : exL K = true) {r : He.Defn} (hr : r ∈ lmL) : Apart (tfB.map (He.cT K)) (He.cT K r).2 := fun q hq => by
  obtain ⟨d, hd, rfl⟩ := List.mem_map.mp hq
  have z := (Bool.and_eq_true_iff.mp (List.all_eq_true.mp h r hr)).1
  have z := List.all_eq_true.mp z d hd
  simpa using z
theorem ne_of_ex2 {K : PySem.W.Frag} (h : exL K = true) {r q : He.Defn} (hr : r ∈ lmL) (hq : q ∈ lmL) (n : q ≠ r) : (He.cT K q).2 ≠ (He.cT K r).2 := by
  have z := (Bool.and_eq_true_iff.mp (List.all_eq_true.mp h r hr)).2
  have z := List.all_eq_true.mp z q hq
  simpa [n] using z
theorem fun_of {K : PySem.W.Frag} {x : Str} {st : Stmt} {f : Addr} {fd : FuncData} (F : FunD K x x (defArgs st) (defBody st) (defScope st) [] [] f fd) : Fun K x x st f fd := by
  obtain ⟨⟨oc, od, dV, kV, doc, pm, an, cdv, ct, osl, e, lk, hcd, hd, _⟩, kp⟩ := F
  rcases hd with ⟨_, hd⟩ | ⟨hd, _⟩
  · subst hd
    exact ⟨⟨oc, od, kV, doc, pm, an, cdv, ct, osl, e, lk, hcd⟩, kp⟩
  · exact absurd rfl hd
/-- a def of the top, by its name -/
structure At (K : PySem.W.Frag) (mg : Str → Option Value) (x : Str) (st : Stmt) (fd : FuncData) : Prop where
  mg_ : mg x = some (.ref (He.ga K x))
  fn : Fun K x x st (He.ga K x) fd
theorem At.kp {K : PySem.W.Frag} {mg : Str → Option Value} {x : Str} {st : Stmt} {fd : FuncData} (a : At K mg x st fd) : PySem.W.keepIn K (.ref (He.ga K x)) = true := a.fn.kp
theorem fun_ofm {K : PySem.W.Frag} {x q : Str} {st : Stmt} {f : Addr} {fd : FuncData} (F : FunD K x q (defArgs st) (defBody st) (defScope st) [] [] f fd) : Fun K x q st f fd := by
  obtain ⟨⟨oc, od, dV, kV, doc, pm, an, cdv, ct, osl, e, lk, hcd, hd, _⟩, kp⟩ := F
  rcases hd with ⟨_, hd⟩ | ⟨hd, _⟩
  · subst hd
    exact ⟨⟨oc, od, kV, doc, pm, an, cdv, ct, osl, e, lk, hcd⟩, kp⟩
  · exact absurd rfl hd
theorem atm_of {fa : List He.Fa} {fn : List He.DefD} {K : PySem.W.Frag} (c : He.SaysD fa fn K) {k i : Nat} {C m : Str} (hd : dm k i C m ∈ fn) : ∃ fd, Fun K m (C ++ "." ++ m) (mth k i) (He.ma K (He.ga K C) m) fd := by
  obtain ⟨fd, F⟩ := c.defs hd
  exact ⟨fd, fun_ofm F⟩
theorem at_of {fa : List He.Fa} {fn : List He.DefD} {K : PySem.W.Frag} {h : Heap} {mg : Str → Option Value} (X : K.In h) (G : h.Ns mainGlobals mg) (c : He.SaysD fa fn K) {i : Nat} {x : Str} (hd : dd i x ∈ fn) (hf : He.Fa.glo x ∈ fa) : ∃ fd, At K mg x (top i) fd := by
  obtain ⟨fd, F⟩ := c.defs hd
  exact ⟨fd, He.glo_ok X G (c.facts hf), fun_of F⟩
theorem code_of {K : PySem.W.Frag} {mg : Str → Option Value} {x : Str} {st : Stmt} {fd : FuncData} (a : At K mg x st fd) : fd.code = .ref (He.cT K (x, none)).1 := by
  obtain ⟨oc, od, kV, doc, pm, an, cdv, ct, osl, e, lk, hcd⟩ := a.fn.ex
  obtain ⟨c, hc⟩ := He.codeIn_ref hcd
  have e2 : fd.code = .ref c := by rw [e, ← hc]
  have e3 : He.codeOf K (x, none) = c := He.codeOf_eq (p := (x, none)) lk e2
  show fd.code = .ref (He.codeOf K (x, none))
  rw [e3, e2]
theorem tab_conv {base : Heap} {mg : Str → Option Value} {c P : Addr} (t : LamX.TabB base mg c P) : GxR.TabB base mg c P := ⟨t.code, t.bm, t.gP⟩

theorem txt_of {K : PySem.W.Frag} {h : Heap} {mg : Str → Option Value} (X : K.In h) (G : h.Ns mainGlobals mg) (c : He.SaysD faL fnL K) : Txt mg := by
  constructor
  all_goals exact He.free_ok X G (c.facts (by simp [faL]))
theorem consts_of {K : PySem.W.Frag} {h : Heap} {mg : Str → Option Value} (X : K.In h) (G : h.Ns mainGlobals mg) (c : He.SaysD faL fnL K) : Consts mg := by
  constructor
  all_goals exact He.int_ok X G (c.facts (by simp [faL]))
theorem triples_nil : TriplesOk (#[] : Array Value).toList := trivial
theorem facts {w : World} {K : PySem.W.Frag} {h : Heap} {mg : Str → Option Value} {f : Addr} (X : K.In h) (G : h.Ns mainGlobals mg) (hfa : mg ("law" : Str) = some (.ref f)) (c : He.SaysX faL fnL [] tfL exC w h K) :
    LamX.LawAtS PySem.Challenge.rw_tabgrow_k37_whole_one_sign_many_rubs w K CX0 16 63 "_law_script" mg f h := by
  have cd := c.t.d
  have T := txt_of X G cd
  have N := consts_of X G cd
  obtain ⟨me, mf⟩ := He.ba c.more
  have ne := ne_of_ex me (r := ("law", none)) (by simp [lmL])
  obtain ⟨d20, a20⟩ := at_of X G cd (i := 20) (x := "is_whole") (by simp [fnL]) (by simp [faL])
  have b20 := a20.fn.binds (ps := ["value", "low", "high"]) fun _ _ _ _ _ _ us hl => match us, hl with | [_, _, _], _ => rfl
  obtain ⟨d21, a21⟩ := at_of X G cd (i := 21) (x := "is_sign") (by simp [fnL]) (by simp [faL])
  have b21 := a21.fn.binds (ps := ["sign"]) fun _ _ _ _ _ _ us hl => match us, hl with | [_], _ => rfl
  obtain ⟨d22, a22⟩ := at_of X G cd (i := 22) (x := "is_text_of_signs") (by simp [fnL]) (by simp [faL])
  have b22 := a22.fn.binds (ps := ["value", "most"]) fun _ _ _ _ _ _ us hl => match us, hl with | [_, _], _ => rfl
  obtain ⟨d23, a23⟩ := at_of X G cd (i := 23) (x := "is_row") (by simp [fnL]) (by simp [faL])
  have b23 := a23.fn.binds (ps := ["value"]) fun _ _ _ _ _ _ us hl => match us, hl with | [_], _ => rfl
  obtain ⟨d24, a24⟩ := at_of X G cd (i := 24) (x := "first_misfit") (by simp [fnL]) (by simp [faL])
  have b24 := a24.fn.binds (ps := ["rows"]) fun _ _ _ _ _ _ us hl => match us, hl with | [_], _ => rfl
  obtain ⟨d25, a25⟩ := at_of X G cd (i := 25) (x := "check_page") (by simp [fnL]) (by simp [faL])
  have b25 := a25.fn.binds (ps := ["page"]) fun _ _ _ _ _ _ us hl => match us, hl with | [_], _ => rfl
  obtain ⟨d26, a26⟩ := at_of X G cd (i := 26) (x := "check_style") (by simp [fnL]) (by simp [faL])
  have b26 := a26.fn.binds (ps := ["style"]) fun _ _ _ _ _ _ us hl => match us, hl with | [_], _ => rfl
  obtain ⟨d28, a28⟩ := at_of X G cd (i := 28) (x := "written") (by simp [fnL]) (by simp [faL])
  have b28 := a28.fn.binds (ps := ["page"]) fun _ _ _ _ _ _ us hl => match us, hl with | [_], _ => rfl
  obtain ⟨d29, a29⟩ := at_of X G cd (i := 29) (x := "rows_of") (by simp [fnL]) (by simp [faL])
  have b29 := a29.fn.binds (ps := ["text"]) fun _ _ _ _ _ _ us hl => match us, hl with | [_], _ => rfl
  obtain ⟨d33, a33⟩ := at_of X G cd (i := 33) (x := "marks_there") (by simp [fnL]) (by simp [faL])
  have b33 := a33.fn.binds (ps := ["many", "deeds"]) fun _ _ _ _ _ _ us hl => match us, hl with | [_, _], _ => rfl
  obtain ⟨d34, a34⟩ := at_of X G cd (i := 34) (x := "those_there") (by simp [fnL]) (by simp [faL])
  have b34 := a34.fn.binds (ps := ["order", "there"]) fun _ _ _ _ _ _ us hl => match us, hl with | [_, _], _ => rfl
  obtain ⟨d35, a35⟩ := at_of X G cd (i := 35) (x := "text_of") (by simp [fnL]) (by simp [faL])
  have b35 := a35.fn.binds (ps := ["signs", "marks"]) fun _ _ _ _ _ _ us hl => match us, hl with | [_, _], _ => rfl
  obtain ⟨d36, a36⟩ := at_of X G cd (i := 36) (x := "first_there") (by simp [fnL]) (by simp [faL])
  have b36 := a36.fn.binds (ps := ["order", "there", "spot"]) fun _ _ _ _ _ _ us hl => match us, hl with | [_, _, _], _ => rfl
  obtain ⟨d38, a38⟩ := at_of X G cd (i := 38) (x := "_law_begun") (by simp [fnL]) (by simp [faL])
  have b38 := a38.fn.binds (ps := ["_law_script"]) fun _ _ _ _ _ _ us hl => match us, hl with | [_], _ => rfl
  obtain ⟨d39, a39⟩ := at_of X G cd (i := 39) (x := "_law_take") (by simp [fnL]) (by simp [faL])
  have b39 := a39.fn.binds (ps := ["_law_box", "_law_many"]) fun _ _ _ _ _ _ us hl => match us, hl with | [_, _], _ => rfl
  obtain ⟨d40, a40⟩ := at_of X G cd (i := 40) (x := "_law_alike") (by simp [fnL]) (by simp [faL])
  have b40 := a40.fn.binds (ps := ["_law_found", "_law_due_here"]) fun _ _ _ _ _ _ us hl => match us, hl with | [_, _], _ => rfl
  obtain ⟨d41, a41⟩ := at_of X G cd (i := 41) (x := "_law_sign") (by simp [fnL]) (by simp [faL])
  have b41 := a41.fn.binds (ps := ["_law_box"]) fun _ _ _ _ _ _ us hl => match us, hl with | [_], _ => rfl
  obtain ⟨d42, a42⟩ := at_of X G cd (i := 42) (x := "_law_told") (by simp [fnL]) (by simp [faL])
  have b42 := a42.fn.binds (ps := ["_law_work"]) fun _ _ _ _ _ _ us hl => match us, hl with | [_], _ => rfl
  obtain ⟨d43, a43⟩ := at_of X G cd (i := 43) (x := "_law_due") (by simp [fnL]) (by simp [faL])
  have b43 := a43.fn.binds (ps := ["_law_t", "_law_hand", "_law_way"]) fun _ _ _ _ _ _ us hl => match us, hl with | [_, _, _], _ => rfl
  obtain ⟨d44, a44⟩ := at_of X G cd (i := 44) (x := "law") (by simp [fnL]) (by simp [faL])
  have b44 := a44.fn.binds (ps := ["_law_script"]) fun _ _ _ _ _ _ us hl => match us, hl with | [_], _ => rfl
  have hf : ∀ {x : He.Fa}, x ∈ faL → He.Fa.ok K x = true := fun h => cd.facts h
  have Xc : TabC K (He.ga K "Table") := ⟨He.cls_ok (hf (x := .cls "Table") (by simp [faL])), He.noat_ok (hf (x := .noat "Table" "style") (by simp [faL])), He.noat_ok (hf (x := .noat "Table" "signs") (by simp [faL])), He.noat_ok (hf (x := .noat "Table" "order") (by simp [faL])), He.noat_ok (hf (x := .noat "Table" "there") (by simp [faL])), He.noat_ok (hf (x := .noat "Table" "deeds") (by simp [faL])), He.noat_ok (hf (x := .noat "Table" "spots") (by simp [faL])), He.noat_ok (hf (x := .noat "Table" "undone") (by simp [faL]))⟩
  have eC := He.exc_ok (hf (x := .exc "BadCell") (by simp [faL]))
  have Er : ErrC K mg "BadCell" (He.ga K "BadCell") (He.ga K "GrowError") := ⟨He.glo_ok X G (hf (x := .glo "BadCell") (by simp [faL])), eC.1, eC.2.1, eC.2.2.1, eC.2.2.2, He.exm_ok (hf (x := .exm "BadCell" "GrowError" true) (by simp [faL]))⟩
  have Es := He.exm_ok (hf (x := .exm "BadCell" "BadCell" true) (by simp [faL]))
  have eG := He.glo_ok X G (hf (x := .glo "GrowError") (by simp [faL]))
  have eT : ∃ t, mg "TAB" = some (.str tabS t) := He.str_ok X G (hf (x := .str "TAB" "\t") (by simp [faL]))
  have eL : ∃ t, mg "LINE_END" = some (.str lineS t) := He.str_ok X G (hf (x := .str "LINE_END" "\n") (by simp [faL]))
  have eM : ∃ t, mg "MOST_HANDS" = some (.int 4 t) := He.int_ok X G (hf (x := .int "MOST_HANDS" 4) (by simp [faL]))
  have gT : mg "Table" = some (.ref (He.ga K "Table")) := He.glo_ok X G (hf (x := .glo "Table") (by simp [faL]))
  obtain ⟨d_Table_init, a_Table_init⟩ := atm_of cd (k := 32) (i := 0) (C := "Table") (m := "__init__") (by simp [fnL])
  have b_Table_init := a_Table_init.binds (ps := ["self", "page", "style", "hands"]) fun _ _ _ _ _ _ us hl => match us, hl with | [_, _, _, _], _ => rfl
  have mk_Table : Mk K (He.ga K "Table") (He.ma K (He.ga K "Table") "__init__") := He.mkr_ok (hf (x := .mkr "Table") (by simp [faL]))
  obtain ⟨d_Table_rub, a_Table_rub⟩ := atm_of cd (k := 32) (i := 2) (C := "Table") (m := "rub") (by simp [fnL])
  have b_Table_rub := a_Table_rub.binds (ps := ["self", "hand"]) fun _ _ _ _ _ _ us hl => match us, hl with | [_, _], _ => rfl
  have m_Table_rub : Meth K (He.ga K "Table") "rub" (He.ma K (He.ga K "Table") "rub") := He.meth_ok (hf (x := .meth "Table" "rub") (by simp [faL]))
  obtain ⟨d_Table_back, a_Table_back⟩ := atm_of cd (k := 32) (i := 3) (C := "Table") (m := "back") (by simp [fnL])
  have b_Table_back := a_Table_back.binds (ps := ["self", "hand"]) fun _ _ _ _ _ _ us hl => match us, hl with | [_, _], _ => rfl
  have m_Table_back : Meth K (He.ga K "Table") "back" (He.ma K (He.ga K "Table") "back") := He.meth_ok (hf (x := .meth "Table" "back") (by simp [faL]))
  obtain ⟨d_Table_again, a_Table_again⟩ := atm_of cd (k := 32) (i := 4) (C := "Table") (m := "again") (by simp [fnL])
  have b_Table_again := a_Table_again.binds (ps := ["self", "hand"]) fun _ _ _ _ _ _ us hl => match us, hl with | [_, _], _ => rfl
  have m_Table_again : Meth K (He.ga K "Table") "again" (He.ma K (He.ga K "Table") "again") := He.meth_ok (hf (x := .meth "Table" "again") (by simp [faL]))
  obtain ⟨d_Table_right, a_Table_right⟩ := atm_of cd (k := 32) (i := 6) (C := "Table") (m := "right") (by simp [fnL])
  have b_Table_right := a_Table_right.binds (ps := ["self", "hand"]) fun _ _ _ _ _ _ us hl => match us, hl with | [_, _], _ => rfl
  have m_Table_right : Meth K (He.ga K "Table") "right" (He.ma K (He.ga K "Table") "right") := He.meth_ok (hf (x := .meth "Table" "right") (by simp [faL]))
  obtain ⟨d_Table_at, a_Table_at⟩ := atm_of cd (k := 32) (i := 7) (C := "Table") (m := "at") (by simp [fnL])
  have b_Table_at := a_Table_at.binds (ps := ["self", "hand"]) fun _ _ _ _ _ _ us hl => match us, hl with | [_, _], _ => rfl
  have m_Table_at : Meth K (He.ga K "Table") "at" (He.ma K (He.ga K "Table") "at") := He.meth_ok (hf (x := .meth "Table" "at") (by simp [faL]))
  obtain ⟨d_Table_page, a_Table_page⟩ := atm_of cd (k := 32) (i := 8) (C := "Table") (m := "page") (by simp [fnL])
  have b_Table_page := a_Table_page.binds (ps := ["self"]) fun _ _ _ _ _ _ us hl => match us, hl with | [_], _ => rfl
  have m_Table_page : Meth K (He.ga K "Table") "page" (He.ma K (He.ga K "Table") "page") := He.meth_ok (hf (x := .meth "Table" "page") (by simp [faL]))
  obtain ⟨d_Table_told, a_Table_told⟩ := atm_of cd (k := 32) (i := 10) (C := "Table") (m := "told") (by simp [fnL])
  have b_Table_told := a_Table_told.binds (ps := ["self"]) fun _ _ _ _ _ _ us hl => match us, hl with | [_], _ => rfl
  have m_Table_told : Meth K (He.ga K "Table") "told" (He.ma K (He.ga K "Table") "told") := He.meth_ok (hf (x := .meth "Table" "told") (by simp [faL]))
  obtain ⟨d_Table_check_hand, a_Table_check_hand⟩ := atm_of cd (k := 32) (i := 11) (C := "Table") (m := "check_hand") (by simp [fnL])
  have b_Table_check_hand := a_Table_check_hand.binds (ps := ["self", "hand"]) fun _ _ _ _ _ _ us hl => match us, hl with | [_, _], _ => rfl
  have m_Table_check_hand : Meth K (He.ga K "Table") "check_hand" (He.ma K (He.ga K "Table") "check_hand") := He.meth_ok (hf (x := .meth "Table" "check_hand") (by simp [faL]))
  obtain ⟨d_Table_present, a_Table_present⟩ := atm_of cd (k := 32) (i := 12) (C := "Table") (m := "present") (by simp [fnL])
  have b_Table_present := a_Table_present.binds (ps := ["self"]) fun _ _ _ _ _ _ us hl => match us, hl with | [_], _ => rfl
  have m_Table_present : Meth K (He.ga K "Table") "present" (He.ma K (He.ga K "Table") "present") := He.meth_ok (hf (x := .meth "Table" "present") (by simp [faL]))
  obtain ⟨d_Table_near, a_Table_near⟩ := atm_of cd (k := 32) (i := 13) (C := "Table") (m := "near") (by simp [fnL])
  have b_Table_near := a_Table_near.binds (ps := ["self", "hand", "by"]) fun _ _ _ _ _ _ us hl => match us, hl with | [_, _, _], _ => rfl
  have m_Table_near : Meth K (He.ga K "Table") "near" (He.ma K (He.ga K "Table") "near") := He.meth_ok (hf (x := .meth "Table" "near") (by simp [faL]))
  obtain ⟨d_Table_go, a_Table_go⟩ := atm_of cd (k := 32) (i := 14) (C := "Table") (m := "go") (by simp [fnL])
  have b_Table_go := a_Table_go.binds (ps := ["self", "hand", "by"]) fun _ _ _ _ _ _ us hl => match us, hl with | [_, _, _], _ => rfl
  have m_Table_go : Meth K (He.ga K "Table") "go" (He.ma K (He.ga K "Table") "go") := He.meth_ok (hf (x := .meth "Table" "go") (by simp [faL]))
  obtain ⟨d_Table_turn, a_Table_turn⟩ := atm_of cd (k := 32) (i := 15) (C := "Table") (m := "turn") (by simp [fnL])
  have b_Table_turn := a_Table_turn.binds (ps := ["self", "number", "stands"]) fun _ _ _ _ _ _ us hl => match us, hl with | [_, _, _], _ => rfl
  have m_Table_turn : Meth K (He.ga K "Table") "turn" (He.ma K (He.ga K "Table") "turn") := He.meth_ok (hf (x := .meth "Table" "turn") (by simp [faL]))
  obtain ⟨d_Table_settle, a_Table_settle⟩ := atm_of cd (k := 32) (i := 16) (C := "Table") (m := "settle") (by simp [fnL])
  have b_Table_settle := a_Table_settle.binds (ps := ["self", "signs", "order", "deeds"]) fun _ _ _ _ _ _ us hl => match us, hl with | [_, _, _, _], _ => rfl
  have m_Table_settle : Meth K (He.ga K "Table") "settle" (He.ma K (He.ga K "Table") "settle") := He.meth_ok (hf (x := .meth "Table" "settle") (by simp [faL]))
  have e := hfa.symm.trans a44.mg_
  cases e
  refine ⟨d44, tfL.map (He.cT K), spLaw K (tfB.map (He.cT K)) (He.cT K ("law", none)).2, fun p hp => ?_, fun p hp => ?_, fun p hp => ?_, fun s u => ?_, fun H a ns hl _ hT hS => ⟨a, ns, rfl, fun p hp => ⟨_, hT p (subL hp), triples_nil⟩, LamX.TabS.nil (hT _ (memL (r := ("law", none)) (by simp [lmL]))), hS, hl, fun _ => rfl⟩, fun base KB _ TB => ?_⟩
  · obtain ⟨p', hp', rfl⟩ := List.mem_map.mp hp
    exact c.empty p' hp'
  · obtain ⟨p', hp', rfl⟩ := List.mem_map.mp hp
    exact c.out p' hp'
  · obtain ⟨p', hp', rfl⟩ := List.mem_map.mp hp
    exact PySem.W.codeHd_of_K X (c.hd p' hp')
  · obtain ⟨oc, od, kV, doc, pm, an, cdv, ct, osl, e, _, _⟩ := a44.fn.ex
    rw [e]
    exact .of_eq rfl
  have m22 : He.cT K ("is_text_of_signs", none) ∈ tfB.map (He.cT K) := List.mem_map.mpr ⟨_, by simp [tfB], rfl⟩
  have t22 := tab_conv (TB _ (subL m22))
  have m23 : He.cT K ("is_row", none) ∈ tfB.map (He.cT K) := List.mem_map.mpr ⟨_, by simp [tfB], rfl⟩
  have t23 := tab_conv (TB _ (subL m23))
  have g38 := ok_begun (P := PySem.Challenge.rw_tabgrow_k37_whole_one_sign_many_rubs.prog) (w := w) (base := base) (mg := mg) T a38.fn 
  have g39 := ok_take (P := PySem.Challenge.rw_tabgrow_k37_whole_one_sign_many_rubs.prog) (w := w) (base := base) (mg := mg)  a39.fn 
  have g41 := ok_sign (P := PySem.Challenge.rw_tabgrow_k37_whole_one_sign_many_rubs.prog) (w := w) (base := base) (mg := mg)  a41.fn g39 a39.kp b39 a39.mg_
  have g40 := ok_alike (P := PySem.Challenge.rw_tabgrow_k37_whole_one_sign_many_rubs.prog) (w := w) (base := base) (mg := mg) T a40.fn b40 a40.mg_ 4
  have g42 := ok_told2 (P := PySem.Challenge.rw_tabgrow_k37_whole_one_sign_many_rubs.prog) (w := w) (base := base) (mg := mg) (kl := 14) Er Es eG a42.fn 
  have g43 := ok_due (P := PySem.Challenge.rw_tabgrow_k37_whole_one_sign_many_rubs.prog) (w := w) (base := base) (mg := mg) (cs := tfB.map (He.cT K)) T a43.fn 
  have g20 := ok_whole (P := PySem.Challenge.rw_tabgrow_k37_whole_one_sign_many_rubs.prog) (w := w) (base := base) (mg := mg) T a20.fn 
  have g26 := ok_cstyle (P := PySem.Challenge.rw_tabgrow_k37_whole_one_sign_many_rubs.prog) (w := w) (base := base) (mg := mg) T N a26.fn g20 a20.kp b20 a20.mg_
  have g21 := ok_sg (P := PySem.Challenge.rw_tabgrow_k37_whole_one_sign_many_rubs.prog) (w := w) (base := base) (mg := mg) T N a21.fn 
  have g22 := ok_text (P := PySem.Challenge.rw_tabgrow_k37_whole_one_sign_many_rubs.prog) (w := w) (base := base) (mg := mg) T a22.fn (code_of a22) t22 m22 g21 a21.kp b21 a21.mg_
  have g23 := ok_isrow (P := PySem.Challenge.rw_tabgrow_k37_whole_one_sign_many_rubs.prog) (w := w) (base := base) (mg := mg) T N a23.fn (code_of a23) t23 m23 g22 a22.kp b22 a22.mg_
  have g24 := ok_misfit (P := PySem.Challenge.rw_tabgrow_k37_whole_one_sign_many_rubs.prog) (w := w) (base := base) (mg := mg) T N a24.fn g23 a23.kp b23 a23.mg_
  have g25 := ok_check (P := PySem.Challenge.rw_tabgrow_k37_whole_one_sign_many_rubs.prog) (w := w) (base := base) (mg := mg) T a25.fn g24 a24.kp b24 a24.mg_
  have g28 := ok_writ (P := PySem.Challenge.rw_tabgrow_k37_whole_one_sign_many_rubs.prog) (w := w) (base := base) (mg := mg) eT eL a28.fn g25 a25.kp b25 a25.mg_
  have g29 := ok_rowsof (P := PySem.Challenge.rw_tabgrow_k37_whole_one_sign_many_rubs.prog) (w := w) (base := base) (mg := mg) (cs := tfB.map (He.cT K)) T eT eL a29.fn 
  have g20_B := ok_wholeB (P := PySem.Challenge.rw_tabgrow_k37_whole_one_sign_many_rubs.prog) (w := w) (base := base) (mg := mg) T a20.fn 
  have g33 := ok_marks (P := PySem.Challenge.rw_tabgrow_k37_whole_one_sign_many_rubs.prog) (w := w) (base := base) (mg := mg)  a33.fn 
  have g34 := ok_those (P := PySem.Challenge.rw_tabgrow_k37_whole_one_sign_many_rubs.prog) (w := w) (base := base) (mg := mg)  a34.fn 
  have g35 := ok_textof (P := PySem.Challenge.rw_tabgrow_k37_whole_one_sign_many_rubs.prog) (w := w) (base := base) (mg := mg)  a35.fn 
  have g36 := ok_first (P := PySem.Challenge.rw_tabgrow_k37_whole_one_sign_many_rubs.prog) (w := w) (base := base) (mg := mg)  a36.fn 
  have t_check_hand := ok_chand (P := PySem.Challenge.rw_tabgrow_k37_whole_one_sign_many_rubs.prog) (w := w) (base := base) (mg := mg) T Xc a_Table_check_hand g20_B a20.kp b20 a20.mg_
  have t_present := ok_present (P := PySem.Challenge.rw_tabgrow_k37_whole_one_sign_many_rubs.prog) (w := w) (base := base) (mg := mg) Xc a_Table_present g34 a34.kp b34 a34.mg_
  have t_near := ok_near (P := PySem.Challenge.rw_tabgrow_k37_whole_one_sign_many_rubs.prog) (w := w) (base := base) (mg := mg) T Xc a_Table_near m_Table_present t_present b_Table_present
  have t_go := ok_go (P := PySem.Challenge.rw_tabgrow_k37_whole_one_sign_many_rubs.prog) (w := w) (base := base) (mg := mg) (cs := tfB.map (He.cT K)) Xc a_Table_go m_Table_near t_near b_Table_near
  have t_right := ok_tright (P := PySem.Challenge.rw_tabgrow_k37_whole_one_sign_many_rubs.prog) (w := w) (base := base) (mg := mg) (cs := tfB.map (He.cT K)) Xc a_Table_right m_Table_check_hand t_check_hand b_Table_check_hand m_Table_go t_go b_Table_go
  have t_page := ok_tpage (P := PySem.Challenge.rw_tabgrow_k37_whole_one_sign_many_rubs.prog) (w := w) (base := base) (mg := mg) (cs := tfB.map (He.cT K)) Xc a_Table_page m_Table_present t_present b_Table_present g35 a35.kp b35 a35.mg_ g29 a29.kp b29 a29.mg_
  have t_at := ok_tat (P := PySem.Challenge.rw_tabgrow_k37_whole_one_sign_many_rubs.prog) (w := w) (base := base) (mg := mg) (cs := tfB.map (He.cT K)) T Xc a_Table_at m_Table_check_hand t_check_hand b_Table_check_hand m_Table_present t_present b_Table_present g35 a35.kp b35 a35.mg_ g29 a29.kp b29 a29.mg_
  have t_told := ok_ttold (P := PySem.Challenge.rw_tabgrow_k37_whole_one_sign_many_rubs.prog) (w := w) (base := base) (mg := mg) Xc a_Table_told
  have t_settle := ok_settle (P := PySem.Challenge.rw_tabgrow_k37_whole_one_sign_many_rubs.prog) (w := w) (base := base) (mg := mg) (cs := tfB.map (He.cT K)) T Xc a_Table_settle g33 a33.kp b33 a33.mg_ g34 a34.kp b34 a34.mg_ g35 a35.kp b35 a35.mg_ g29 a29.kp b29 a29.mg_ g24 a24.kp b24 a24.mg_ g36 a36.kp b36 a36.mg_
  have t_turn := ok_turn (P := PySem.Challenge.rw_tabgrow_k37_whole_one_sign_many_rubs.prog) (w := w) (base := base) (mg := mg) (cs := tfB.map (He.cT K)) T Xc a_Table_turn m_Table_settle t_settle b_Table_settle
  have t_back := ok_tback (P := PySem.Challenge.rw_tabgrow_k37_whole_one_sign_many_rubs.prog) (w := w) (base := base) (mg := mg) (cs := tfB.map (He.cT K)) T Xc a_Table_back m_Table_check_hand t_check_hand b_Table_check_hand m_Table_turn t_turn b_Table_turn
  have t_again := ok_tagain (P := PySem.Challenge.rw_tabgrow_k37_whole_one_sign_many_rubs.prog) (w := w) (base := base) (mg := mg) (cs := tfB.map (He.cT K)) T Xc a_Table_again m_Table_check_hand t_check_hand b_Table_check_hand m_Table_turn t_turn b_Table_turn
  have t_rub := ok_trub (P := PySem.Challenge.rw_tabgrow_k37_whole_one_sign_many_rubs.prog) (w := w) (base := base) (mg := mg) (cs := tfB.map (He.cT K)) T Er Xc a_Table_rub m_Table_check_hand t_check_hand b_Table_check_hand m_Table_near t_near b_Table_near m_Table_settle t_settle b_Table_settle
  have t_init := ok_tinit (P := PySem.Challenge.rw_tabgrow_k37_whole_one_sign_many_rubs.prog) (w := w) (base := base) (mg := mg) (cs := tfB.map (He.cT K)) T Xc eM a_Table_init g28 a28.kp b28 a28.mg_ g26 a26.kp b26 a26.mg_ g20_B a20.kp b20 a20.mg_
  exact ok_law T ne Xc a44.fn (code_of a44) (TB _ (memL (r := ("law", none)) (by simp [lmL]))) g38 a38.kp b38 a38.mg_ g39 a39.kp b39 a39.mg_ g41 a41.kp b41 a41.mg_ g43 a43.kp b43 a43.mg_ g40 a40.kp b40 a40.mg_ g42 a42.kp b42 a42.mg_ m_Table_rub t_rub b_Table_rub m_Table_back t_back b_Table_back m_Table_again t_again b_Table_again mk_Table t_init b_Table_init gT m_Table_right t_right b_Table_right m_Table_page t_page b_Table_page m_Table_at t_at b_Table_at m_Table_told t_told b_Table_told
end TG


namespace TG
open PySem PySem.Spec PyProof.Rows L2
abbrev R : PySem.W.OpenRow := PySem.W.OpenLaw.row PySem.Challenge.rw_tabgrow_k37_whole_one_sign_many_rubs
abbrev hk : PySem.W.Hook := He.hookX 4 faL fnL [] tfL exC
def ob (s : PySem.W.SharedT) : He.AlX := He.obsX 4 faL fnL [] tfL exC (HandSHeadRun.getT s)
theorem ob_eq (s : PySem.W.SharedT) : ob s = hk.obs s.abs := He.obsX_eq (HandSHeadRun.getT_eq s)
def loose0 : List Str := [PySem.Str.ofString "_wall", PySem.Str.ofString "GrowError", PySem.Str.ofString "BadPage", PySem.Str.ofString "BadStyle", PySem.Str.ofString "BadCell", PySem.Str.ofString "BadCount", PySem.Str.ofString "BadHand", PySem.Str.ofString "TooMuch", PySem.Str.ofString "MOST_ROWS", PySem.Str.ofString "MOST_CELLS", PySem.Str.ofString "MOST_SIGNS", PySem.Str.ofString "MOST_GAP", PySem.Str.ofString "MOST_LEAST", PySem.Str.ofString "BLANK", PySem.Str.ofString "TILDE", PySem.Str.ofString "PERCENT", PySem.Str.ofString "TAB", PySem.Str.ofString "LINE_END", PySem.Str.ofString "is_whole", PySem.Str.ofString "is_sign"]
def loose1 : List Str := [PySem.Str.ofString "is_text_of_signs", PySem.Str.ofString "is_row", PySem.Str.ofString "first_misfit", PySem.Str.ofString "check_page", PySem.Str.ofString "check_style", PySem.Str.ofString "written", PySem.Str.ofString "rows_of", PySem.Str.ofString "MOST_HANDS", PySem.Str.ofString "Table", PySem.Str.ofString "marks_there", PySem.Str.ofString "those_there", PySem.Str.ofString "text_of", PySem.Str.ofString "first_there", PySem.Str.ofString "_law_begun", PySem.Str.ofString "_law_take", PySem.Str.ofString "_law_alike", PySem.Str.ofString "_law_sign", PySem.Str.ofString "_law_told", PySem.Str.ofString "_law_due"]
def looseL : List Str := loose0 ++ loose1
theorem run (w : World) : HandSHeadRun.RunEq R (PySem.W.view R.prog [44]) hk ob 4000 looseL w := by
  intro os
  kernel_rfl
end TG


open PySem PySem.W PySem.Calls PyProof.Rows
theorem PySem.Challenge.cw_tabgrow_k37_whole_one_sign_many_rubs_holds : PySem.Challenge.rw_tabgrow_k37_whole_one_sign_many_rubs.Holds := by
  w_on; o_law
  refine HandSHeadRun.head_any (r := OpenLaw.row PySem.Challenge.rw_tabgrow_k37_whole_one_sign_many_rubs) (q := view (OpenLaw.row PySem.Challenge.rw_tabgrow_k37_whole_one_sign_many_rubs).prog [44]) (H := TG.hk) (ob := TG.ob) (M := 4000) (loose := TG.looseL) (d := HandSHeadRun.topDef (OpenLaw.row PySem.Challenge.rw_tabgrow_k37_whole_one_sign_many_rubs).prog 44) (kwd := []) TG.ob_eq
    (by kernel_rfl) (fun s => by kernel_rfl) TG.run (by kernel_rfl) (by kernel_rfl) (by kernel_rfl) (by rfl) (by first | assumption | decide +kernel) (by decide +kernel) ⟨rfl, rfl, rfl, rfl, rfl, by decide +kernel⟩ ?hw ?hc
  case hw => w_witness2
  case hc =>
    refine LamX.walk_ofTsE (l := PySem.Challenge.rw_tabgrow_k37_whole_one_sign_many_rubs) (n := 63) (k := 16) (x := "_law_script") (CX := fun _ => L2.CX0) rfl (by decide) (by kernel_rfl) ⟨rfl, by decide, by decide⟩ ?F (fun _ _ _ _ _ z => z)
    intro w mg fa h Y G hmg0
    obtain ⟨K, KX, c⟩ := Y
    have hmg : mg ("law" : PySem.Str) = some (.ref fa) := by
      have e : (HandSHeadRun.topDef (OpenLaw.row PySem.Challenge.rw_tabgrow_k37_whole_one_sign_many_rubs).prog 44).name = ("law" : PySem.Str) := by kernel_rfl
      rw [← e]
      exact hmg0
    exact ⟨K, KX, TG.facts KX G hmg c⟩

