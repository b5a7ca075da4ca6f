import PyProof.Rows.All
import Wide.All
import OpenK.AllK
import Wide.FinOn
import HandS.ForMost
import HandS.Exc
import HandS.GenList
import HandS.AnyAll
import HandS.IsInst
import HandS.StrMore
import HandS.Flow
import HandS.TupAny
import HandS.EndTab
import HandS.Walk
import HandS.Lambda
import HandS.Codes
import KE.KIntText
import KE.KxText
import KE.KStateDown
import HandS.Head0
import HandS.Head1
import HandS.Head2
import HandS.HeadEnd
import HandS.HeadHook1
import HandS.HeadHook2
import HandS.HeadHook3
import HandS.HeadHook4
import HandS.HeadWalk
import PyProof.WalkInts
import PyProof.ZipIter
import HandS.Zip
import HandS.Nested
import HandS.GenOver
import KE.KLam
import HandS.Replace
import HandS.ReplaceLit
import HandS.ReplaceDef
import PyProof.ToksMono
import HandS.ReplaceList
import HandS.ExcSuper
import HandS.ExcInit
import KE.KExcSuper
import KE.KSuper
import KE.KSuperObj
import HandS.FStr
import HandS.WordsExc
import HandS.ExcOwn
import PySem.Challenge.RW_tabgrow_k26_texts_read
import HandS.ExcIs
import HandS.ExcField
import KE.KExcIs
import HandS.Style
import HandS.TryOnly
import HandS.Conv
import HandS.Iter
set_option Elab.async false
set_option linter.all false
set_option maxRecDepth 1000000
set_option maxHeartbeats 20000000
namespace Gx
open PySem PySem.Spec PyProof.Rows L2 GenW
abbrev gE (X : Cx) (sc : Scope) (C : Addr) (code : Value) : Env :=
  genEnv sc (cloFrom X.env.cells sc.names []) C code builtinsNs X.env
/-- the context of the element -/
def gCx (X : Cx) (A : Around) (sc : Scope) (x : Str) (code : Value) (s4 : Shared) (H4 : Hp) (fp : List Addr) : Cx where
  prog := X.prog
  w := X.w
  K := X.K
  mg := X.mg
  base := X.base
  A := A.deeper (gE X sc s4.heap.objs.size code)
  N := [x]
  s_0 := s4
  H_0 := H4
  env := gE X sc s4.heap.objs.size code
  outer := X.stack
  stack := gE X sc s4.heap.objs.size code :: X.stack
  ex := fp
  fn := fun _ => false
  calm := true
  pn := []
  xe := fun _ _ => False
/-- the scope of a generator expression that captures nothing -/
structure GSc (sc : Scope) (x : Str) : Prop where
  kind : sc.kind = .function
  co : sc.isCoroutine = false
  cell : ∀ y ∈ sc.names, y.2 ≠ .cell
  free : ∀ y ∈ sc.names, y.2 ≠ .free
  dot : sc.names.lookup (".0" : Str) = some NameKind.local
  loc : sc.names.lookup x = some .local
section
variable {X : Cx} {pins : List (Addr × Obj)} {σ : L2.St} {H : Hp} {s : Shared} {A : Around} {sc : Scope} {x : Str} {code : Value} {fp : List Addr}
theorem no_cells (S : GSc sc x) (cells : List (Str × Addr)) {y : Str} {c : Addr} (h : (cloFrom cells sc.names []).lookup y = some c) : False := by
  rcases cloFrom_mem (PySem.mem_of_lookup h) with z | ⟨z, _⟩
  · cases z
  · exact S.free _ z rfl
theorem gx_inv (I : Inv X pins σ H s) (S : GSc sc x) (hd : A.handled = none) (hfr : A.frames = some X.stack) (hf : ∀ b ∈ fp, FpOk X pins H b)
    (hlt : ∀ b ∈ fp, b < s.heap.objs.size) {s5 : Shared} {m : Str → Option Value} (os : s5.os = s.os) (bare : AllBare s5.gens)
    (keep : ∀ b o, s.heap.get? b = some o → s5.heap.get? b = some o) (hns : s5.heap.Ns s.heap.objs.size m) :
    Inv (gCx X A sc x code s H fp) [] [none] H s5 := by
  have nc : ∀ {y : Str} {c : Addr}, (gCx X A sc x code s H fp).env.cells.lookup y = some c → False := fun {y c} h => no_cells S _ h
  refine ⟨⟨I.ok.mod, S.kind, I.ok.glob, rfl, Nat.le_refl _, fun y z c e _ => (nc e).elim, fun y hy => ?_, fun y c _ e => (nc e).elim, fun _ => hd,
      Around.frames_deeper hfr, .inr ⟨rfl, rfl⟩, fun b hb => ⟨Nat.ne_of_lt (hlt b hb), fun y c e => (nc e).elim⟩, I.bs, Nat.le_trans I.ok.bsz I.sz,
      fun b o e hb => ?_, fun b hb z => ?_, I.stack, I.stkFree⟩,
    os, bare, Un.kept keep, ⟨m, hns, fun i y v _ e2 _ => ?_⟩, fun y c e => (nc e).elim, I.hok.fresh (Nat.le_refl _), fun y c e => (nc e).elim,
    fun p hp => ?_, I.hok.kept keep, rfl⟩
  · rcases hy with z | z
    · exact absurd rfl (S.cell _ (PySem.mem_of_lookup (show sc.names.lookup y = some .cell from z)))
    · exact absurd rfl (S.free _ (PySem.mem_of_lookup (show sc.names.lookup y = some .free from z)))
  · rcases (hf b hb).2.2.2.1 with z | z
    · exact I.ok.noex b o e z
    · exact absurd (Nat.lt_of_lt_of_le (Heap.lt_size e) (Nat.le_trans I.ok.bsz z)) (Nat.lt_irrefl _)
  · rcases List.mem_cons.mp (I.stkSub b z) with q | q
    · exact (hf b hb).2.1 q
    · exact (hf b hb).2.2.1 q
  · match i, e2 with
    | 0, e2 => cases e2
    | i + 1, e2 => simp at e2
  · exact absurd (show p ∈ ([] : List (Addr × Obj)) from hp) (by simp)
/-- only the generators' states differ -/
theorem regens {s' : Shared} (I : Inv X pins σ H s) (os : s'.os = s.os) (hh : ∀ b o, s.heap.get? b = some o → s'.heap.get? b = some o) (hb : AllBare s'.gens) : Inv X pins σ H s' :=
  I.call' (ch := []) os (Un.kept hh) (I.hok.kept hh) hb fun b z => by simp at z
/-- the consumer's own list, if it has one -/
def Held (So : Option Addr) (Rel : Array Value → Prop) (ps : List (Addr × Obj)) : Prop :=
  match So with
  | none => ps = []
  | some S => ∃ acc c, ps = [(S, lstObj acc c)] ∧ Rel acc
structure Woke (So : Option Addr) (Rel : Array Value → Prop) (s s' : Shared) : Prop where
  os : s'.os = s.os
  bare : AllBare s'.gens
  keep : ∀ b o, So ≠ some b → s.heap.get? b = some o → s'.heap.get? b = some o
  own : ∀ S, So = some S → ∃ acc' c', s'.heap.get? S = some (lstObj acc' c') ∧ Rel acc'
theorem woken {Z : Cx} {q ps : List (Addr × Obj)} {So : Option Addr} {Rel Rel' : Array Value → Prop} {s' : Shared} (I : Inv Z (q ++ ps) σ H s) (hps : Held So Rel ps) (hq : ∀ p ∈ Z.pn ++ q, So ≠ some p.1)
    (hS : ∀ S, So = some S → Z.s_0.heap.objs.size ≤ S ∧ S ≠ Z.env.locals ∧ ∀ y c, Z.env.cells.lookup y = some c → c ≠ S) (k : Woke So Rel' s s') :
    ∃ ps', Held So Rel' ps' ∧ Inv Z (q ++ ps') σ H s' ∧ ∀ p ∈ ps', s'.heap.get? p.1 = some p.2 := by
  cases So with
  | none =>
    have e : ps = [] := hps
    subst e
    exact ⟨[], rfl, regens I k.os (fun b o e => k.keep b o (by simp) e) k.bare, fun p hp => by simp at hp⟩
  | some S =>
    obtain ⟨acc, c, e, _⟩ := hps
    subst e
    obtain ⟨h1, h2, h3, h4, _⟩ := I.pin (S, lstObj acc c) (List.mem_append_right _ (List.mem_append_right _ (List.mem_singleton.mpr rfl)))
    obtain ⟨acc', c', e', hR⟩ := k.own S rfl
    obtain ⟨g1, g2, g3⟩ := hS S rfl
    have I0 : Inv Z q σ H s := I.pins_of fun p hp => I.pin p (List.mem_append_right _ (List.mem_append_left _ hp))
    have nS : ∀ b u, H b = some u → b ≠ S := fun b u e z => by rw [z, h2] at e; cases e
    have kp : ∀ b o, b ≠ S → s.heap.get? b = some o → s'.heap.get? b = some o := fun b o hb e => k.keep b o (fun z => hb (Option.some.inj z).symm) e
    have ni : ∀ b : Addr, b ∉ [S] → b ≠ S := fun b hb e => hb (by rw [e]; exact List.mem_singleton.mpr rfl)
    have J : Inv Z q σ H s' := by
      refine I0.call' (ch := [S]) k.os ⟨fun b o e _ _ hx => kp b o (ni b hx) e, fun b o e _ _ hx => ⟨o.slots, kp b o (ni b hx) e⟩, fun _ _ _ n _ => n, fun b o e hx => ⟨o, kp b o (ni b hx) e⟩,
        fun _ _ e => e, fun _ _ _ e => e, fun _ _ e => ⟨#[], by rw [e]; simp⟩⟩ (fun b u e => ?_) k.bare fun b hb => ?_
      · refine (I0.hok b u e).stay (fun d v hd z => kp d v ?_ z) (fun _ z => z) fun _ _ z => z
        rcases hd with z | z
        · rw [z]; exact nS b u e
        · exact nS d _ z
      · have eb : b = S := List.mem_singleton.mp hb
        subst eb
        exact ⟨.inr g1, g2, g3, fun p hp z => hq p hp (by rw [z])⟩
    refine ⟨[(S, lstObj acc' c')], ⟨acc', c', rfl, hR⟩, J.pins_of fun p hp => ?_, fun p hp => by rw [List.mem_singleton.mp hp]; exact e'⟩
    rcases List.mem_append.mp hp with z | z
    · exact J.pin p (List.mem_append_right _ z)
    · rw [List.mem_singleton.mp z]
      exact ⟨e', h2, h3, h4, fun v z => by cases z⟩
abbrev WT := Nat → List V → Hp → Prop
/-- an item is handed out -/
def GYx (Z : Cx) (q : List (Addr × Obj)) (So : Option Addr) (Rel : List V → Array Value → Prop) (W : WT) (Ny : Nat → List V → V → Hp → Prop) : Protocol := fun n s₀ v s1 kap =>
  ∃ m ys y σ H ps, m < n + 1 ∧ RelV y v ∧ Held So (Rel ys) ps ∧ (∀ p ∈ ps, s₀.heap.get? p.1 = some p.2) ∧ Inv Z (q ++ ps) σ H s1 ∧ Ny m ys y H ∧ ∀ s', Woke So (Rel (ys ++ [y])) s1 s' → ∀ m', m' < m → W m' (ys ++ [y]) H → kap (.send .none) s'
def GFx (Z : Cx) (q : List (Addr × Obj)) (So : Option Addr) (Rel : List V → Array Value → Prop) (Ns : List V → Hp → Prop) (s₀ s1 : Shared) : Prop :=
  ∃ ys σ H ps, Held So (Rel ys) ps ∧ (∀ p ∈ ps, s₀.heap.get? p.1 = some p.2) ∧ Inv Z (q ++ ps) σ H s1 ∧ Ns ys H
abbrev GRx (Z : Cx) (q : List (Addr × Obj)) (So : Option Addr) (Rel : List V → Array Value → Prop) (Ns : List V → Hp → Prop) : GenEnd := fun n s₀ r s₁ =>
  ((r = .ok (.ret .none) ∨ r = .ok .next) ∧ (fun (_ : Nat) (t : Shared) s => GFx Z q So Rel Ns t s) n s₀ s₁) ∨ ∃ e, r = .error e ∧ (fun (_ : Value) (_ : Shared) => False) e s₁
theorem seg_turns {elt iter : Expr} {px : Pos} {pos : Pos} {it : Addr} {J : It} {tn : Nat → Heap → Prop} {te : TE} {W : WT} {Ny : Nat → List V → V → Hp → Prop} {Ns : List V → Hp → Prop} {s4 : Shared} {H4 : Hp}
    {q : List (Addr × Obj)} {So : Option Addr} {Rel : List V → Array Value → Prop}
    (S : GSc sc x) (T : Turn X.prog X.w X.K (.Name x px) J fp it tn)
    (stat : ∀ b ∈ fp, b ≠ s4.heap.objs.size ∧ b ∉ frs X.stack ∧ (∀ p ∈ q, p.1 ≠ b) ∧ So ≠ some b)
    (hq : ∀ p ∈ q, So ≠ some p.1) (hS : ∀ S', So = some S' → s4.heap.objs.size < S')
    (he : PE (gCx X A sc x code s4 H4 fp) elt te)
    (step : ∀ m ys H, W m ys H → (J.stop ys.length H ∧ Ns ys H) ∨ (J.go ys.length H ∧ ∀ v H', J.yld ys.length H v H' → te [some v] H' (Ny m ys))) :
    ∀ (n m : Nat) (ys : List V) (s₀ s : Shared) (σ : L2.St) (H : Hp) (ps : List (Addr × Obj)), m < n → Held So (Rel ys) ps → (∀ p ∈ ps, s₀.heap.get? p.1 = some p.2) → W m ys H → Inv (gCx X A sc x code s4 H4 fp) (q ++ ps) σ H s → tn ys.length s.heap → (∀ b ∈ fp, H b = none) →
      Seg (model X.prog X.w) A (GRx (gCx X A sc x code s4 H4 fp) q So Rel Ns) (GYx (gCx X A sc x code s4 H4 fp) q So Rel W Ny) n s₀
        (.compLoop (.GeneratorExp elt [⟨.Name x px, iter, [], 0⟩] sc pos) 0 (.ref it) .none (gE X sc s4.heap.objs.size code))
        ((model X.prog X.w).den (.compLoop (.GeneratorExp elt [⟨.Name x px, iter, [], 0⟩] sc pos) 0 (.ref it) .none (gE X sc s4.heap.objs.size code))) [] s := by
  have nc : ∀ {y : Str} {c : Addr}, (gCx X A sc x code s4 H4 fp).env.cells.lookup y = some c → False := fun {y c} h => no_cells S _ h
  intro n
  induction n with
  | zero => intro m _ _ _ _ _ _ hm; exact absurd hm (Nat.not_lt_zero _)
  | succ n ih =>
    intro m ys s₀ s σ H ps hm hps hs0 hW I htn hfn
    have fok : ∀ {H' : Hp}, (∀ b ∈ fp, H' b = none) → ∀ b ∈ fp, FpOk (gCx X A sc x code s4 H4 fp) (q ++ ps) H' b := fun {H'} hn b hb => by
      obtain ⟨a1, a2, a3, a4⟩ := stat b hb
      refine ⟨hn b hb, a1, a2, .inl hb, fun y c e => (nc e).elim, fun p hp => ?_⟩
      rcases List.mem_append.mp (show p ∈ q ++ ps from hp) with z | z
      · exact a3 p z
      · cases So with
        | none =>
          have e : ps = [] := hps
          rw [e] at z
          simp at z
        | some S' =>
          obtain ⟨acc, c, e, _⟩ := hps
          rw [e] at z
          rw [List.mem_singleton.mp z]
          exact fun w => a4 (by rw [← w])
    show Seg _ A _ _ _ s₀ _ ((compTurn (.GeneratorExp elt [⟨.Name x px, iter, [], 0⟩] sc pos) 0 (.ref it) .none (gE X sc s4.heap.objs.size code)).onRaise (leaving (gE X sc s4.heap.objs.size code))) [] s
    rw [compTurn_gen, Sem.onRaise_eq_wrap]
    refine seg_bind_wrap (wpAny_standAt ?_)
    rcases step m ys H hW with ⟨stop, qn⟩ | ⟨go, st⟩
    · refine seg_bind_wrap (thn (T.done (gCx X A sc x code s4 H4 fp) rfl rfl rfl rfl ys.length (q ++ ps) s σ H _ I (fok hfn) htn stop) fun r s5 ⟨hr, I5⟩ => ?_)
      subst hr
      exact seg_end (.ok .next) (.inl ⟨.inr rfl, ys, σ, H, ps, hps, hs0, I5, qn⟩)
    · refine seg_bind_wrap (thn (T.item (gCx X A sc x code s4 H4 fp) rfl rfl rfl rfl ys.length (q ++ ps) s σ H _ I (fok hfn) htn go) fun r s5 ⟨u, hr, h5⟩ => ?_)
      subst hr
      refine seg_bind_wrap (thn h5 fun _ s6 ⟨v, H6, I6, r6, y6, tn6, fn6⟩ => ?_)
      have I6' := I6.pinned (fok fn6) (T.obj _ _ tn6)
      have pg : PG (gCx X A sc x code s4 H4 fp) (.Name x px) (gName 0) := pg_name (i := 0) (List.nodup_cons.mpr ⟨by simp, List.nodup_nil⟩) rfl (.inl S.loc) (.inr S.loc)
      have eσ : σ.set 0 (some v) = [some v] := by
        have hl : σ.length = 1 := I.len
        match σ, hl with
        | [_], _ => rfl
      refine seg_bind_wrap (wpAny_mono (pg.run _ s6 σ H6 v u (fun σ' H' => σ' = [some v] ∧ H' = H6) I6' r6 ⟨eσ, rfl⟩) (fun _ s7 h7 => ?_) fun _ _ z => z.elim)
      obtain ⟨σ7, H7, I7, eσ7, eH7⟩ := h7
      subst eσ7 eH7
      simp only [List.forIn_nil]
      refine seg_bind_wrap (wpAny_pure ?_)
      simp only [if_true]
      have hy : ∀ v, yieldOut (gE X sc s4.heap.objs.size code) v = yieldValue v := fun v => by
        simp only [yieldOut, show (gE X sc s4.heap.objs.size code).scope.isCoroutine = false from S.co, Bool.false_eq_true, if_false]
      simp only [hy]
      rw [Sem.bind_eq_wrap', Sem.bind_eq_wrap', Sem.wrap_wrap, Sem.wrap_wrap]
      refine seg_wrap (wpAny_mono (he.run _ s7 [some v] H7 _ I7 (st v H7 y6)) (fun w s8 h8 => ?_) fun _ _ z => z.elim)
      obtain ⟨y, H8, I8, r8, ny⟩ := h8
      have fn8 : ∀ b ∈ fp, H8 b = none := fun b hb => by
        obtain ⟨o, e, d⟩ := T.obj _ _ tn6 b hb
        exact (I8.pin (b, o) (List.mem_append_right _ (List.mem_append_right _ (mem_pinsAt hb e)))).2.1
      have tn8 : tn (ys.length + 1) s8.heap := T.keep _ _ _ tn6 fun b hb o e => (I8.pin (b, o) (List.mem_append_right _ (List.mem_append_right _ (mem_pinsAt hb e)))).1
      refine seg_at (seg_yield rfl rfl rfl ⟨m, ys, y, [some v], H8, ps, hm, r8, hps, hs0, I8.unpinned, ny, fun s9 wk m' hm' w' => ?_⟩)
      obtain ⟨ps', hps', I9, e9⟩ := woken I8.unpinned hps (fun p hp => hq p hp) (fun S' e => ⟨Nat.le_of_lt (hS S' e), Nat.ne_of_gt (hS S' e), fun y c e => (nc e).elim⟩) wk
      refine seg_again rfl (ih m' (ys ++ [y]) s9 s9 [some v] H8 ps' (by omega) hps' e9 w' I9 ?_ fn8)
      rw [List.length_append, List.length_singleton]
      exact T.keep _ _ _ tn8 fun b hb o e => wk.keep b o (stat b hb).2.2.2 e
end
end Gx
namespace Gx
open PySem PySem.Spec PyProof.Rows L2 GenW
section
variable {X : Cx} {pins : List (Addr × Obj)} {σ : L2.St} {H : Hp} {s : Shared} {sc : Scope} {x : Str}
theorem seg_begin {A : Around} {elt iter : Expr} {px pos : Pos} {it : Addr} {J : It} {fp : List Addr} {tn : Nat → Heap → Prop} {cenv : Env} {R : GenEnd} {Y : Protocol} {n : Nat} {s₀ : Shared}
    (T : Turn X.prog X.w X.K (.Name x px) J fp it tn) (ht : tn 0 s.heap)
    (loop : Seg (model X.prog X.w) A R Y n s₀ (.compLoop (.GeneratorExp elt [⟨.Name x px, iter, [], 0⟩] sc pos) 0 (.ref it) .none cenv) ((model X.prog X.w).den (.compLoop (.GeneratorExp elt [⟨.Name x px, iter, [], 0⟩] sc pos) 0 (.ref it) .none cenv)) [] s) :
    Seg (model X.prog X.w) A R Y n s₀ (.compStart (.GeneratorExp elt [⟨.Name x px, iter, [], 0⟩] sc pos) 0 (.ref it) .none cenv) ((model X.prog X.w).den (.compStart (.GeneratorExp elt [⟨.Name x px, iter, [], 0⟩] sc pos) 0 (.ref it) .none cenv)) [] s := by
  show Seg _ A R Y n s₀ _ ((compStart (.GeneratorExp elt [⟨.Name x px, iter, [], 0⟩] sc pos) 0 (.ref it) .none cenv).onRaise (leaving cenv)) [] s
  unfold compStart
  rw [Sem.onRaise_eq_wrap]
  show Seg _ A R Y n s₀ _ ((ask >>= _).wrap _ _ _ _) [] s
  refine seg_bind_wrap (wpAny_askSetting ?_)
  split
  · exact seg_again rfl loop
  · first
      | exact seg_bind_wrap (wpAny_rule (seg_bind_wrap (wpAny_standAt (seg_bind_wrap (T.self _ 0 s _ _ ht (seg_again rfl loop))))))
      | (refine seg_bind_wrap (wpAny_rule ?_); show Seg _ A R Y n s₀ _ ((standAt iter.pos >>= _).wrap _ _ _ _) [] s; exact seg_bind_wrap (wpAny_standAt (seg_bind_wrap (T.self _ 0 s _ _ ht (seg_again rfl loop)))))
/-- the reading of a generator expression: W the state between two turns, by a measure, what was handed out, the heap -/
def tGen (P : Addr) (wi : TI) (te : TE) (NyOf : WT → Nat → List V → V → Hp → Prop) (Ns : List V → Hp → Prop) : L2.St → Hp → Prop := fun σ H =>
  wi σ H fun J H1 => GxR.TabG H1 P ∧ ∀ H2, GxR.Tabbed P H1 H2 → ∃ W : WT, (∃ m, W m [] H2) ∧ ∀ m ys H, W m ys H →
    (J.stop ys.length H ∧ Ns ys H) ∨ (J.go ys.length H ∧ ∀ v H', J.yld ys.length H v H' → te [some v] H' (NyOf W m ys))
theorem code_step {A : Around} {E : Value → Shared → Prop} {Q : Value → Shared → Prop} {c P : Addr} {gpos : Pos} (I : Inv X pins σ H s) (TB : GxR.TabB X.base X.mg c P) (hcode : X.env.code = .ref c) (hT : GxR.TabG H P)
    (h : ∀ (code : Value) (H3 : Hp) (s3 : Shared), GxR.Tabbed P H H3 → Inv X pins σ H3 s3 → (∀ b o, b ≠ P → s.heap.get? b = some o → s3.heap.get? b = some o) → Q code s3) :
    wpAny (model X.prog X.w) A (genexprCode X.env gpos (X.env.qual ++ "<genexpr>") sc) Q E s := by
  obtain ⟨ps, hP, ht⟩ := id hT
  have hPs : s.heap.get? P = some { cls := .none, data := .fields ps } := I.hok P _ hP
  have cd : PySem.W.CodeHd s.heap c P := TB.code.keeps I.bk
  cases hf : codeAmong gpos ps.toList with
  | none =>
    refine wpAny_genexprCodeX hcode (cd.code hPs ht) (cd.tab hPs) hf fun c' h' tk hx hge hlt hco' _ htab' _ => ?_
    obtain ⟨o1, vs, f1, tf, fl, tg, inF, tx, tt, op, _, _, _, _, _, _, _, _, _, htr, _⟩ := hco'
    have J := GxR.inv_tab (t' := tk) (g' := s.gens) (d' := s.drawn) I hP (fun b o hb e => hx b o hb e) htab'.2 I.bare
    exact h _ _ _ ⟨⟨_, upd_same, htr⟩, fun b hb => upd_ne hb⟩ J fun b o hb e => hx b o hb e
  | some cv =>
    refine wpAny_genexprCode_hit hcode (cd.code hPs ht) hf ?_
    exact h _ H s ⟨hT, fun _ _ => rfl⟩ I fun _ _ _ e => e
end
end Gx
namespace Gx
open PySem PySem.Spec PyProof.Rows L2 GenW
section
variable {X : Cx} {pins : List (Addr × Obj)} {σ : L2.St} {H : Hp} {s : Shared} {sc : Scope} {x : Str}
/-- a generator that has not begun, at a in s5 -/
def Begun1 (X : Cx) (pins : List (Addr × Obj)) (σ : L2.St) (k : Nat) (Rel : List V → Array Value → Prop) (NyOf : WT → Nat → List V → V → Hp → Prop) (Ns : List V → Hp → Prop) (a : Addr) (s5 : Shared) : Prop :=
  ∃ (g : Nat) (c : Code) (H4 : Hp), s5.heap.IsGen a g ∧ s5.gens[g]? = some (.fresh c) ∧ Inv X pins σ H4 s5 ∧ a < s5.heap.objs.size ∧
    ∀ (A : Around) (So : Option Addr) (s6 : Shared), Room (k + 1) A → A.frames = some X.stack → (∀ S, So = some S → s5.heap.objs.size ≤ S ∧ ∃ acc c, s6.heap.get? S = some (lstObj acc c) ∧ Rel [] acc) →
      (∀ b o, s5.heap.get? b = some o → s6.heap.get? b = some o) → s6.os = s5.os → AllBare s6.gens →
      ∃ (Z : Cx) (q : List (Addr × Obj)) (W : WT) (m0 : Nat),
        (∀ ps σz Hz s7, Inv Z (q ++ ps) σz Hz s7 → Inv X pins σ Hz s7 ∧ s7.heap.IsGen a g) ∧
        Seg (model X.prog X.w) A (GRx Z q So Rel Ns) (GYx Z q So Rel W (NyOf W)) (m0 + 1) s6 c ((model X.prog X.w).den c) [] s6
theorem gx_make {elt iter : Expr} {px gpos : Pos} {c P : Addr} {wi : TI} {te : TE} {k j : Nat} {Rel : List V → Array Value → Prop} {NyOf : WT → Nat → List V → V → Hp → Prop} {Ns : List V → Hp → Prop} {Q' : Value → Shared → Prop}
    (hr : Room j X.A) (TB : GxR.TabB X.base X.mg c P) (hcode : X.env.code = .ref c) (S : GSc sc x) (hi : PI X (.Name x px) iter wi)
    (he : ∀ (A : Around) (code : Value) (s4 : Shared) (H4 : Hp) (fp : List Addr), Room k (A.deeper (gE X sc s4.heap.objs.size code)) → PE (gCx X A sc x code s4 H4 fp) elt te)
    (hs : ∀ v, genFold iter X.env v = pure v) (I : Inv X pins σ H s) (h : tGen P wi te NyOf Ns σ H)
    (hQ : ∀ a s5, Begun1 X pins σ k Rel NyOf Ns a s5 → Q' (.ref a) s5) :
    wpAny (model X.prog X.w) X.A (eval (.GeneratorExp elt [⟨.Name x px, iter, [], 0⟩] sc gpos) X.env) Q' X.xe s := by
  refine wpAny_GeneratorExp_make S.co (closure_ok fun y hy z => absurd z (S.free y hy)) S.cell S.dot S.kind hr.depth ?_ hs
  refine thn (hi.run pins s σ H _ I h) fun xv s1 h1 => thn h1 fun itv s2 h2 => ?_
  obtain ⟨it, fp, tn, J, H2, e, I2, T, st2, f2, hT, hW⟩ := h2
  subst e
  refine ⟨I2.nolimit, code_step I2 TB hcode hT fun code H3 s3 hTb I3 kp3 => ?_⟩
  obtain ⟨bm, ob, e1, e2, e3, e4, e5, e6, e7, e8⟩ := TB.bm
  refine wpAny_builtinsFor (m := X.mg) (by rw [I3.ok.glob]; exact I3.mod.glob.keeps I3.bk) e1 e2 (I3.bk _ _ e5) e6 e7 e8 fun h' hn' hs' => ?_
  obtain ⟨W, ⟨m0, w0⟩, step⟩ := hW H3 hTb
  have hTP : H2 P ≠ none := by
    obtain ⟨ps, z, _⟩ := hT
    rw [z]; exact fun q => nomatch q
  have nP : ∀ b ∈ fp, b ≠ P := fun b hb z => hTP (by rw [← z]; exact (f2 b hb).1)
  have f3 : ∀ b ∈ fp, FpOk X pins H3 b := fun b hb => ⟨(hTb.2 b (nP b hb)).trans (f2 b hb).1, (f2 b hb).2⟩
  have tn3 : tn 0 s3.heap := T.keep _ _ _ st2 fun b hb o q => kp3 b o (nP b hb) q
  have lt3 : ∀ b ∈ fp, b < s3.heap.objs.size := fun b hb => by
    obtain ⟨o, q, _⟩ := T.obj _ _ tn3 b hb
    exact Heap.lt_size q
  have hsz : h'.objs.size = s3.heap.objs.size + 1 := by rw [hs'.1, Heap.size_push]
  have kp' : ∀ b o, s3.heap.get? b = some o → h'.get? b = some o := fun b o q => hs'.extBut b o (Nat.ne_of_lt (Heap.lt_size q)) (Heap.get?_push_of_some _ q)
  refine hQ _ _ ⟨s3.gens.size, _, H3, ⟨_, _, _, Heap.get?_push_size _ rfl, rfl, rfl, rfl⟩, Array.getElem?_push_size .., ?_, ?_, fun A So s6 hrA hfr hSo kp6 os6 b6 => ?_⟩
  · exact regens I3 rfl (fun b o q => Heap.get?_push_of_some _ (kp' b o q)) (AllBare.push I3.bare rfl)
  · show h'.objs.size < (h'.push _).objs.size
    rw [Heap.size_push]; exact Nat.lt_succ_self _
  · have kp36 : ∀ b o, s3.heap.get? b = some o → s6.heap.get? b = some o := fun b o q => kp6 b o (Heap.get?_push_of_some _ (kp' b o q))
    have hns6 : s6.heap.Ns s3.heap.objs.size (fun y => if y = ".0" then some (.ref it) else none) := by
      obtain ⟨o, es, ep, ho, r⟩ := hn'
      exact ⟨o, es, ep, kp6 _ _ (Heap.get?_push_of_some _ ho), r⟩
    have IZ := gx_inv (code := code) (A := A) I3 S hrA.hd hfr f3 lt3 (s5 := s6) os6 b6 kp36 hns6
    have big : ∀ b, s3.heap.objs.size < b → H3 b = none ∧ b ≠ s3.heap.objs.size ∧ b ∉ frs X.stack := fun b hb => by
      refine ⟨I3.hok.fresh (Nat.le_of_lt hb), Nat.ne_of_gt hb, fun z => ?_⟩
      rcases List.mem_cons.mp (I3.stkSub b z) with w | w
      · exact absurd (Nat.lt_trans (by rw [w]; exact I3.lt) hb) (Nat.lt_irrefl _)
      · exact I3.nofs (Nat.le_of_lt hb) w
    have ha : s3.heap.objs.size < h'.objs.size := by rw [hsz]; exact Nat.lt_succ_self _
    have hga := kp6 h'.objs.size _ (Heap.get?_push_size _ rfl)
    have hSb : ∀ S', So = some S' → h'.objs.size < S' := fun S' z => by
      have q := (hSo S' z).1
      have q' : (h'.push _).objs.size ≤ S' := q
      rw [Heap.size_push] at q'
      exact q'
    obtain ⟨ps, hps, IZ2⟩ : ∃ ps, Held So (Rel []) ps ∧ Inv (gCx X A sc x code s3 H3 fp) ([(h'.objs.size, _)] ++ ps) [none] H3 s6 := by
      cases So with
      | none =>
        refine ⟨[], rfl, IZ.pins_of fun p hp => ?_⟩
        rw [List.append_nil] at hp
        rw [List.mem_singleton.mp hp]
        obtain ⟨b1, b2, b3⟩ := big _ ha
        exact ⟨hga, b1, b2, b3, fun v z => by cases z⟩
      | some S' =>
        obtain ⟨_, acc, cc, q2, hR⟩ := hSo S' rfl
        refine ⟨[(S', lstObj acc cc)], ⟨acc, cc, rfl, hR⟩, IZ.pins_of fun p hp => ?_⟩
        rcases List.mem_append.mp hp with z | z
        · rw [List.mem_singleton.mp z]
          obtain ⟨b1, b2, b3⟩ := big _ ha
          exact ⟨hga, b1, b2, b3, fun v z => by cases z⟩
        · rw [List.mem_singleton.mp z]
          obtain ⟨b1, b2, b3⟩ := big _ (Nat.lt_trans ha (hSb S' rfl))
          exact ⟨q2, b1, b2, b3, fun v z => by cases z⟩
    have hSne : ∀ b, b ≤ h'.objs.size → So ≠ some b := fun b hb z => absurd (Nat.lt_of_lt_of_le (hSb b z) hb) (Nat.lt_irrefl _)
    refine ⟨gCx X A sc x code s3 H3 fp, [(h'.objs.size, { cls := .type "generator", data := .fields #[.int s3.gens.size 0, .str "<genexpr>" (s3.toks + 1), .str (X.env.qual ++ "<genexpr>") (s3.toks + 1 + 1)] })], W, m0, fun ps σz Hz s7 J7 => ⟨?_, ?_⟩, ?_⟩
    · refine I3.call' (ch := fp) J7.os J7.base J7.hok J7.bare fun b hb => ?_
      obtain ⟨_, a2, _, a4, a5, a6⟩ := f3 b hb
      exact ⟨a4, a2, a5, a6⟩
    · exact ⟨_, _, _, (J7.pin _ (List.mem_append_right _ (List.mem_append_left _ (List.mem_singleton.mpr rfl)))).1, rfl, rfl, rfl⟩
    · refine seg_begin T (T.keep _ _ _ tn3 fun b hb o q => kp36 b o q) ?_
      refine seg_turns S T (fun b hb => ⟨Nat.ne_of_lt (lt3 b hb), fun z => ?_, fun p hp z => ?_, hSne b (Nat.le_of_lt (Nat.lt_trans (lt3 b hb) ha))⟩) (fun p hp => ?_) (fun S' z => Nat.lt_trans ha (hSb S' z)) (he A code s3 H3 fp (hrA.deeper _)) step
        (m0 + 1) m0 [] s6 s6 [none] H3 ps (Nat.lt_succ_self _) hps (fun p hp => (IZ2.pin p (List.mem_append_right _ (List.mem_append_right _ hp))).1) w0 IZ2 (T.keep _ _ _ tn3 fun b hb o q => kp36 b o q) fun b hb => (f3 b hb).1
      · rcases List.mem_cons.mp (I3.stkSub b z) with w | w
        · exact (f3 b hb).2.1 w
        · exact (f3 b hb).2.2.1 w
      · rw [List.mem_singleton.mp hp] at z
        have q : h'.objs.size = b := z
        exact absurd (Nat.lt_trans (lt3 b hb) ha) (by rw [q]; exact Nat.lt_irrefl _)
      · rw [List.mem_singleton.mp hp]
        exact hSne _ (Nat.le_refl _)
end
end Gx
namespace Gx
open PySem PySem.Spec PyProof.Rows L2 GenW
section
variable {X : Cx} {pins : List (Addr × Obj)} {σ : L2.St} {H : Hp} {s : Shared} {sc : Scope} {x : Str}
def NyAll (Qb : Bool → Hp → Prop) (W : WT) : Nat → List V → V → Hp → Prop := fun m ys y H => ∃ b : Bool, y = .bl b ∧ if b = true then ∃ m', m' < m ∧ W m' (ys ++ [y]) H else Qb false H
abbrev noRel : List V → Array Value → Prop := fun _ _ => True
theorem all_turns {Z : Cx} {q : List (Addr × Obj)} {W : WT} {Qb : Bool → Hp → Prop} {A : Around} {a : Addr} {g : Nat} {Rr : Result → Shared → Prop} (hh : A.handled = none) (hd : A.depth < recursionLimit)
    (fin : ∀ ps σz Hz s7, Inv Z (q ++ ps) σz Hz s7 → Inv X pins σ Hz s7 ∧ s7.heap.IsGen a g)
    (hdone : ∀ b H' s', Inv X pins σ H' s' → Qb b H' → Rr (.ok (.ret (.bool b))) s') :
    ∀ (n : Nat) (s : Shared), s.heap.IsGen a g → s.heap.NoLimit →
      (∃ gs, s.gens[g]? = some gs ∧ gs.Goes (model X.prog X.w) A.in1.in1 (GRx Z q none noRel fun _ => Qb true) (GYx Z q none noRel W (NyAll Qb W)) n (.send .none) (s.setGen g .running)) →
      codeAny (model X.prog X.w) A (.builtin "all.loop" ⟨[.ref a], []⟩) Rr s := by
  intro n
  induction n using Nat.strongRecOn with
  | ind n ih =>
    intro s hg hl ⟨gs, hgs, hgo⟩
    have hgl : g < s.gens.size := (Array.getElem?_eq_some_iff.mp hgs).1
    refine codeAny_builtin F.entry_all_loop ?_; rw [Around.under_plainId F.plain_all_loop _]
    show wpAny _ A.in1 (pyNext (.ref a) >>= _) _ _ s
    refine wpAny_bind (wpAny_gsz (n := g + 1) hgl (next_genG (A := A.in1) hh hl hd hg hgs hgo (fun v s₁ gs' hbare hv => ?_) (fun s₁ hp h' hk => ?_) fun e s₁ he => he.elim))
    · intro hsz
      obtain ⟨m, ys, y, σz, Hz, ps, hm, rv, hps, _, J, ⟨b, eb, hb⟩, hkap⟩ := hv
      subst eb
      have eps : ps = [] := hps
      subst eps
      have ev : v = Value.bool b := rv
      subst ev
      obtain ⟨I1, g1⟩ := fin _ _ _ _ J
      have hsz1 : g < s₁.gens.size := by
        have q1 : (s₁.setGen g gs').gens.size = s₁.gens.size := setGen_size _ _ _
        have q2 : g + 1 ≤ (s₁.setGen g gs').gens.size := hsz
        omega
      have bare2 : AllBare (s₁.setGen g gs').gens := allBare_setGen I1.bare hbare
      refine wpAny_bind (wpAny_holding (wpAny_truthy_bool ?_))
      refine wpAny_bind (wpAny_letGo ?_)
      cases b with
      | true =>
        obtain ⟨m', hm', hw⟩ : ∃ m', m' < m ∧ W m' (ys ++ [V.bl true]) Hz := by simpa using hb
        simp only [if_true]
        cases n with
        | zero => omega
        | succ n =>
          refine wpAny_pure ⟨plainId_quiet F.plain_all_loop _, ih n (Nat.lt_succ_self n) (s₁.setGen g gs') g1 I1.nolimit ⟨gs', setGen_at hsz1, ?_⟩⟩
          exact hkap ((s₁.setGen g gs').setGen g .running) ⟨rfl, allBare_setGen bare2 rfl, fun b o _ e => e, fun S z => by cases z⟩ m' hm' hw
      | false =>
        have hq : Qb false Hz := by simpa using hb
        simp only [Bool.false_eq_true, if_false]
        exact wpAny_bind (wpAny_rule (wpAny_pure (hdone false Hz _ (regens I1 rfl (fun _ _ e => e) bare2) hq)))
    · intro hsz
      obtain ⟨ys, σz, Hz, ps, hps, _, J, hq⟩ := hp
      have eps : ps = [] := hps
      subst eps
      obtain ⟨I1, g1⟩ := fin _ _ _ _ J
      exact wpAny_bind (wpAny_rule (wpAny_pure (hdone true Hz _ (regens I1 rfl (fun b o e => hk b o e) (allBare_setGen I1.bare rfl)) hq)))
/-- all(elt for x in iter) -/
def tAllG (P : Addr) (wi : TI) (te : TE) : TE := fun σ H Q => tGen P wi te (NyAll fun b H => Q (.bl b) H) (fun _ H => Q (.bl true) H) σ H
theorem pe_allG {elt iter : Expr} {px p pos gpos : Pos} {c P : Addr} {wi : TI} {te : TE} {k : Nat}
    (hr : Room (k + 3) X.A) (hg : Gl X "all") (hm : X.mg "all" = none) (TB : GxR.TabB X.base X.mg c P) (hcode : X.env.code = .ref c) (S : GSc sc x) (hi : PI X (.Name x px) iter wi)
    (he : ∀ (A : Around) (code : Value) (s4 : Shared) (H4 : Hp) (fp : List Addr), Room k (A.deeper (gE X sc s4.heap.objs.size code)) → PE (gCx X A sc x code s4 H4 fp) elt te)
    (hs : ∀ v, genFold iter X.env v = pure v)
    (hst : starEach [.GeneratorExp elt [⟨.Name x px, iter, [], 0⟩] sc gpos] X.env = (false, eval (.GeneratorExp elt [⟨.Name x px, iter, [], 0⟩] sc gpos) X.env) :: starEach [] X.env := by rfl) :
    PE X (.Call (.Name "all" p) [.GeneratorExp elt [⟨.Name x px, iter, [], 0⟩] sc gpos] [] pos) (tAllG P wi te) := by
  refine ⟨fun pins s σ H Q I h => ?_⟩
  have hb : bootBuiltins "all" = some (.builtin "all") := by decide +kernel
  refine wpAny_Call_Name_kw (ld_blt I hg hm hb (PyProof.Rows.callWith_builtin1 ?_ hst (by rfl)))
  rw [hst]
  show wpAny _ _ (spliced ((false, eval (.GeneratorExp elt [⟨.Name x px, iter, [], 0⟩] sc gpos) X.env) :: backTo pos (starEach [] X.env))) _ _ s
  refine Calls.spliced_cons (gx_make (k := k) (Rel := noRel) hr TB hcode S hi he hs I h fun a s5 hB => Calls.spliced_nil ?_)
  obtain ⟨g, cd, H4, hgen, hfresh, I5, ha, wake⟩ := hB
  refine call_function_tree F.kind_all F.plain_all F.entry_all (F.args_all1 _) ?_
  unfold Builtin.«all»
  refine wpAny_bind (m := oneArg "all" _) (wpAny_pure (wpAny_bind (wpAny_pyIter_gen hgen ?_)))
  obtain ⟨Z, q, W, m0, fin, seg⟩ := wake X.A.in1.in1 none (s5.setGen g .running) ((hr.mono (by omega : k + 1 + 1 + 1 ≤ k + 3)).in1.in1) I.ok.frames (fun S z => by cases z) (fun _ _ e => e) rfl (allBare_setGen I5.bare rfl)
  refine wpAny_pure ⟨plainId_quiet F.plain_all_loop _, all_turns (Qb := fun b H => Q (.bl b) H) hr.hd hr.depth fin (fun b H' s' I' hq => ?_) (m0 + 1) s5 hgen I5.nolimit ⟨_, hfresh, rfl, seg⟩⟩
  exact ⟨.bl b, H', I', rfl, hq⟩
end
end Gx
namespace Gx
open PySem PySem.Spec PyProof.Rows L2 GenW
section
variable {X : Cx} {pins : List (Addr × Obj)} {σ : L2.St} {H : Hp} {s : Shared} {sc : Scope} {x : Str}
def MaxRel (ys : List V) (acc : Array Value) : Prop :=
  ∃ ns : List Int, ys = ns.map V.int ∧ ((ns = [] ∧ acc = #[]) ∨ ∃ b t, acc = #[.int b t, .int b t] ∧ b ∈ ns ∧ ∀ z ∈ ns, z ≤ b)
def NsMax (Qm : Int → Hp → Prop) : List V → Hp → Prop := fun ys H => ∃ ns : List Int, ys = ns.map V.int ∧ ns ≠ [] ∧ ∀ b, b ∈ ns → (∀ z ∈ ns, z ≤ b) → Qm b H
theorem map_int_inj {a b : List Int} (h : a.map V.int = b.map V.int) : a = b := by
  induction a generalizing b with
  | nil => cases b with
    | nil => rfl
    | cons _ _ => cases h
  | cons x a ih => cases b with
    | nil => cases h
    | cons y b =>
      rw [List.map_cons, List.map_cons] at h
      injection h with h1 h2
      injection h1 with h1
      rw [h1, ih h2]
theorem MaxRel.first {i : Int} {t : Tok} {ys : List V} (h : MaxRel ys #[]) : MaxRel (ys ++ [.int i]) #[.int i t, .int i t] := by
  obtain ⟨ns, rfl, h | ⟨b, u, e, _⟩⟩ := h
  · rw [h.1]
    exact ⟨[i], rfl, .inr ⟨i, t, rfl, by simp, by simp⟩⟩
  · have := congrArg Array.size e
    simp at this
theorem MaxRel.more {i b : Int} {t u : Tok} {ys : List V} (h : MaxRel ys #[.int b u, .int b u]) : MaxRel (ys ++ [.int i]) (if decide (i > b) = true then #[.int i t, .int i t] else #[.int b u, .int b u]) := by
  obtain ⟨ns, rfl, h | ⟨b', u', e, hb, hm⟩⟩ := h
  · have := congrArg Array.size h.2
    simp at this
  · have e' : b = b' := by
      have := congrArg (fun a : Array Value => a[0]?) e
      simp at this
      exact this.1
    subst e'
    refine ⟨ns ++ [i], by simp, .inr ?_⟩
    by_cases hi : i > b
    · rw [if_pos (decide_eq_true hi)]
      refine ⟨i, t, rfl, by simp, fun z hz => ?_⟩
      rcases List.mem_append.mp hz with q | q
      · exact Int.le_of_lt (Int.lt_of_le_of_lt (hm z q) hi)
      · rw [List.mem_singleton.mp q]; exact Int.le_refl _
    · rw [if_neg (by rw [decide_eq_false hi]; exact Bool.false_ne_true)]
      refine ⟨b, u, rfl, List.mem_append_left _ hb, fun z hz => ?_⟩
      rcases List.mem_append.mp hz with q | q
      · exact hm z q
      · rw [List.mem_singleton.mp q]; omega
theorem MaxRel.last {b : Int} {u : Tok} {ys : List V} {Qm : Int → Hp → Prop} (h : MaxRel ys #[.int b u, .int b u]) (q : NsMax Qm ys H) : Qm b H := by
  obtain ⟨ns, rfl, h | ⟨b', u', e, hb, hm⟩⟩ := h
  · have := congrArg Array.size h.2
    simp at this
  · have e' : b = b' := by
      have := congrArg (fun a : Array Value => a[0]?) e
      simp at this
      exact this.1
    subst e'
    obtain ⟨ms, e1, _, hq⟩ := q
    rw [map_int_inj e1] at hb hm
    exact hq b hb hm
theorem MaxRel.none {ys : List V} {Qm : Int → Hp → Prop} (h : MaxRel ys #[]) (q : NsMax Qm ys H) : False := by
  obtain ⟨ns, rfl, h | ⟨b', u', e, hb, hm⟩⟩ := h
  · obtain ⟨ms, e1, h2, _⟩ := q
    rw [h.1] at e1
    exact h2 (map_int_inj e1).symm
  · have := congrArg Array.size e
    simp at this
end
end Gx
namespace TG
open PySem L2
def top (i : Nat) : Stmt := PySem.Challenge.pw_tabgrow_k26_texts_read.main.body.getD i (.Pass ⟨0, 0, 0, 0⟩)
abbrev s_is_sign : Stmt := top 22
abbrev s_is_text : Stmt := top 23
abbrev s_is_row : Stmt := top 24
abbrev s_misfit : Stmt := top 25
abbrev s_check_page : Stmt := top 26
abbrev s_written : Stmt := top 28
abbrev s_read : Stmt := top 29
abbrev s_rows_of : Stmt := top 30
abbrev s_begun : Stmt := top 32
abbrev s_take : Stmt := top 33
abbrev s_alike : Stmt := top 34
abbrev s_told : Stmt := top 35
abbrev s_all : Stmt := top 36
abbrev s_sign : Stmt := top 37
abbrev s_cell : Stmt := top 38
abbrev s_row : Stmt := top 39
abbrev s_page : Stmt := top 40
abbrev s_style : Stmt := top 41
abbrev s_spoilt : Stmt := top 42
abbrev s_due : Stmt := top 43
abbrev s_law : Stmt := top 44
/-- the built-ins that the text calls are the built-ins still -/
structure Txt (mg : Str → Option Value) : Prop where
  isin : mg "isinstance" = none
  len : mg "len" = none
  range : mg "range" = none
  max : mg "max" = none
  min : mg "min" = none
  all : mg "all" = none
  str : mg "str" = none
  int : mg "int" = none
  bool : mg "bool" = none
  list : mg "list" = none
  tuple : mg "tuple" = none
  enum : mg "enumerate" = none
  ord : mg "ord" = none
def BoxAt (H : Hp) (b l : Addr) : Prop := ∃ (ns : List Int) (st : Int), H b = some (.lst [.ref l, .int st]) ∧ H l = some (.lst (ns.map V.int)) ∧ ns.length ≤ 63
/-- all but the box stays -/
def KB (b l : Addr) (H H' : Hp) : Prop := ∀ c o, H c = some o → c ≠ b → c ≠ l → H' c = some o
theorem KB.refl {b l : Addr} {H : Hp} : KB b l H H := fun _ _ h _ _ => h
theorem KB.trans {b l : Addr} {H H1 H2 : Hp} (x : KB b l H H1) (y : KB b l H1 H2) : KB b l H H2 := fun c o h n m => y c o (x c o h n m) n m
theorem box_ne {H : Hp} {b l : Addr} (x : BoxAt H b l) : b ≠ l := by
  obtain ⟨ns, st, h1, h2, _⟩ := x
  refine ne_of h1 h2 fun z => ?_
  injection z with z
  cases ns with
  | nil => cases z
  | cons n ns =>
    rw [List.map_cons] at z
    injection z with z _
    cases z
theorem nz {i : Int} (h : i ≠ 0) : i ≠ 0 := h
theorem at0 {α : Type} {v : α} {xs : List α} : atI (v :: xs) 0 = some v := atI_nat (j := 0) rfl
theorem ix0 {n : Nat} : ixN (n + 1) 0 = some 0 := by
  unfold ixN
  rw [if_pos (by decide), if_pos (by omega)]
  rfl
theorem small0 : ([] : List V).length ≤ sizeLine := Nat.zero_le _
theorem dp_ints {K : PySem.W.Frag} {H : Hp} : ∀ ns : List Int, DpAll K H (ns.map V.int) (ns.map PyData.int)
  | [] => .nil
  | n :: ns => .cons (.int n) (dp_ints ns)
theorem canAll_ints : ∀ ns : List Int, PyData.canLayAll0 (ns.map PyData.int) = true
  | [] => rfl
  | _ :: r => by simp [PyData.canLayAll0, PyData.canLay0, canAll_ints r]
theorem depthAll_ints : ∀ ns : List Int, PyData.depthAll (ns.map PyData.int) = 0
  | [] => rfl
  | _ :: r => by simp [PyData.depthAll, PyData.depth, depthAll_ints r]
theorem shaped_of_ints (ns : List Int) : SeqAt.shaped (.list (ns.map PyData.int)) = true := by
  simp [SeqAt.shaped, PyData.canLay0, PyData.depth, canAll_ints, depthAll_ints]
def spTake : Sp := fun vs H Q _ => ∃ (b l : Addr) (many : Int), vs = [.ref b, .int many] ∧ BoxAt H b l ∧ 0 < many ∧ many < 1073741824 ∧
  ∀ (r : Int) (H' : Hp), 0 ≤ r → r < many → BoxAt H' b l → KB b l H H' → Q (.int r) H'
section
variable {P : Program} {w : World} {K : PySem.W.Frag} {mg : Str → Option Value} {base : Heap}
theorem sc_take : FnScope ["_law_box", "_law_many", "_law_number"] ["_law_box", "_law_many"] (defScope s_take) := ⟨rfl, rfl, rfl, by decide +kernel, rfl, by decide +kernel, by decide +kernel⟩
theorem ok_take {f : Addr} {fd : FuncData} (F : Fun K "_law_take" "_law_take" s_take f fd) : FnOk P w K mg base CX0 1 f fd ["_law_box", "_law_many"] spTake := by
  refine F.ok sc_take (fun vs H Q E h => ?_) (fun cdv A outer s H vs Q E hr h => ?_)
  · obtain ⟨b, l, many, rfl, _⟩ := h
    rfl
  · obtain ⟨b, l, many, rfl, hB, m0, m1, k⟩ := h
    have nd := sc_take.nd
    have hu := hr.units
    refine ⟨_, pss_cons (ps_if (pt_cmpR (op_eqD hu) (pe_ix ix_list (pv 0) pe_int (fun _ _ => rfl)) (pe_lst pa_nil) (nomark _))
        (pss_cons (ps_asg (pe_op op_modN (pe_op op_mul (pe_ix ix_list (pv 0) pe_int (fun _ _ => rfl)) pe_int) pe_int) (pg_sub (pv 0) pe_int set_list))
          (pss_one (ps_ret (pe_op op_modN (pe_op op_fdivN (pe_ix ix_list (pv 0) pe_int (fun _ _ => rfl)) pe_int) (pv 1))))) pss_nil)
      (pss_cons (ps_set (i := 2) nd rfl (.inl rfl) (pe_ix ix_list (pe_ix ix_list (pv 0) pe_int (fun _ _ => rfl)) pe_int (fun _ _ => rfl)))
      (pss_cons (ps_asg (pe_op op_fdivN (pv 2) (pv 1)) (pg_sub (pe_ix ix_list (pv 0) pe_int (fun _ _ => rfl)) pe_int set_list))
      (pss_cons (ps_if (PW.pt (pw_or (pt_cmpR op_eq (pe_ix ix_list (pe_ix ix_list (pv 0) pe_int (fun _ _ => rfl)) pe_int (fun _ _ => rfl)) pe_int (nomark _)) (pw_or1 (pt_cmpR op_eq (pe_ix ix_list (pe_ix ix_list (pv 0) pe_int (fun _ _ => rfl)) pe_int (fun _ _ => rfl)) (pe_un un_neg pe_int) (nomark _)))))
          (pss_one (ps_expr (pe_bm PySem.F.plainAttrs_list PySem.F.slot_list_pop PySem.F.type_list_pop mt_popAt (pe_ix ix_list (pv 0) pe_int (fun _ _ => rfl)) (pa_cons pe_int pa_nil)))) pss_nil)
      (pss_one (ps_ret (pe_op op_modN (pv 2) (pv 1))))))), ?_⟩
    obtain ⟨ns, st, h1, h2, h3⟩ := id hB
    have nbl := box_ne hB
    have len2 : ∀ o, (upd H b o) l = some (.lst (ns.map V.int)) := fun o => by rw [upd_ne nbl.symm]; exact h2
    -- _law_box[0] == []
    refine ⟨_, rfl, b, _, 0, .ref l, rfl, rfl, SqL.of h1, rfl, small0, fun p np => ?_⟩
    have npb : b ≠ p := ne_of_none h1 np
    have npl : l ≠ p := ne_of_none h2 np
    have g1 : (upd H p (.lst [])) b = some (.lst [.ref l, .int st]) := by rw [upd_ne npb]; exact h1
    have g2 : (upd H p (.lst [])) l = some (.lst (ns.map V.int)) := by rw [upd_ne npl]; exact h2
    have kp : KB b l H (upd H p (.lst [])) := fun c o e _ _ => by rw [upd_ne (ne_of_none e np)]; exact e
    refine ⟨.list (ns.map PyData.int), .list [], .lst (SqL.of g2) (dp_ints ns), .lst (SqL.of upd_same) .nil, shaped_of_ints ns, rfl, _, rfl, ?_⟩
    cases ns with
    | nil =>
      refine iteT ?_
      refine ⟨_, rfl, b, _, 1, .int st, rfl, rfl, SqL.of g1, rfl, st, 48271, rfl, rfl, .inr (by decide), _, _, rfl, rfl, nz (by decide), _, rfl, b, _, 1, 1, rfl, rfl, g1, rfl, ?_⟩
      refine ⟨_, rfl, b, _, 1, _, rfl, rfl, SqL.of upd_same, rfl, _, _, rfl, rfl, ⟨by decide, by decide⟩, _, rfl, _, _, rfl, rfl, nz (by omega), ?_⟩
      refine k _ _ (Int.fmod_nonneg_of_pos _ m0) (Int.fmod_lt_of_pos _ m0) ⟨[], _, upd_same, by rw [upd_ne nbl.symm]; exact g2, h3⟩ fun c o e hc hl => ?_
      rw [upd_ne hc]
      exact kp c o e hc hl
    | cons n ns =>
      refine iteF ?_
      refine ⟨_, rfl, b, _, 0, .ref l, rfl, rfl, SqL.of g1, rfl, l, _, 0, .int n, rfl, rfl, SqL.of g2, at0, ?_⟩
      refine ⟨_, rfl, _, rfl, n, many, rfl, rfl, ⟨by omega, by omega⟩, _, rfl, b, _, 0, .ref l, rfl, rfl, SqL.of g1, rfl, l, _, 0, 0, rfl, rfl, g2, ix0, ?_⟩
      have j1 : ∀ o, (upd (upd H p (.lst [])) l o) b = some (.lst [.ref l, .int st]) := fun o => by rw [upd_ne nbl]; exact g1
      have kl : ∀ o, KB b l H (upd (upd H p (.lst [])) l o) := fun o c u e hc hl => by rw [upd_ne hl]; exact kp c u e hc hl
      have fin : ∀ ms : List Int, ms.length ≤ 63 → Q (.int (n.fmod many)) (upd (upd H p (.lst [])) l (.lst (ms.map V.int))) := fun ms hm =>
        k _ _ (Int.fmod_nonneg_of_pos _ m0) (Int.fmod_lt_of_pos _ m0) ⟨ms, st, j1 _, upd_same, hm⟩ (kl _)
      have e0 : (List.map V.int (n :: ns)).set 0 (V.int (n.fdiv many)) = List.map V.int (n.fdiv many :: ns) := rfl
      rw [e0]
      -- == 0 or == -1
      refine ⟨_, rfl, b, _, 0, .ref l, rfl, rfl, SqL.of (j1 _), rfl, l, _, 0, .int (n.fdiv many), rfl, rfl, SqL.of upd_same, at0, rfl, _, rfl, ?_⟩
      have done : ∀ H', (∃ ms : List Int, ms.length ≤ 63 ∧ H' = upd (upd H p (.lst [])) l (.lst (ms.map V.int))) → ∃ v, ([some (V.ref b), some (V.int many), some (V.int n)] : L2.St)[2]? = some (some v) ∧ ∃ v_1, ([some (V.ref b), some (V.int many), some (V.int n)] : L2.St)[1]? = some (some v_1) ∧ ∃ i j, v = V.int i ∧ v_1 = V.int j ∧ j ≠ 0 ∧ Q (V.int (i.fmod j)) H' := fun H' ⟨ms, hm, e⟩ => by
        subst e
        exact ⟨_, rfl, _, rfl, n, many, rfl, rfl, nz (by omega), fin ms hm⟩
      have pop : ∀ Z : VK, (∀ y H', H' = upd (upd H p (.lst [])) l (.lst (ns.map V.int)) → Z y H') → rPopAt (.ref l) [.int 0] (upd (upd H p (.lst [])) l (.lst (List.map V.int (n.fdiv many :: ns)))) Z := fun Z hZ =>
        ⟨l, _, 0, 0, _, rfl, rfl, upd_same, by decide, by decide, by simp [seqIndex?], rfl, hZ _ _ (by rw [upd_upd]; rfl)⟩
      have h3' : ns.length ≤ 63 := by simp at h3; omega
      by_cases hz : n.fdiv many = 0
      · rw [decide_eq_true (show V.int (n.fdiv many) = V.int 0 by rw [hz])]
        refine iteT (iteT ⟨_, rfl, b, _, 0, .ref l, rfl, rfl, SqL.of (j1 _), rfl, .inl ⟨rfl, _, SqL.of upd_same⟩, pop _ fun y H' e => done H' ⟨ns, h3', e⟩⟩)
      · rw [decide_eq_false (show ¬ V.int (n.fdiv many) = V.int 0 from fun z => hz (by injection z))]
        refine iteF ⟨_, rfl, b, _, 0, .ref l, rfl, rfl, SqL.of (j1 _), rfl, l, _, 0, .int (n.fdiv many), rfl, rfl, SqL.of upd_same, at0, 1, rfl, rfl, _, rfl, ?_⟩
        refine ite2 (fun _ => ⟨_, rfl, b, _, 0, .ref l, rfl, rfl, SqL.of (j1 _), rfl, .inl ⟨rfl, _, SqL.of upd_same⟩, pop _ fun y H' e => done H' ⟨ns, h3', e⟩⟩) fun _ => ?_
        exact done _ ⟨n.fdiv many :: ns, h3, rfl⟩
end
end TG
namespace TG
open PySem L2
section
variable {P : Program} {w : World} {K : PySem.W.Frag} {mg : Str → Option Value} {base : Heap}
def spBegun (K : PySem.W.Frag) : Sp := fun vs H Q _ => ∃ (a : Addr) (ns : List Int), vs = [.ref a] ∧ SqL K H a (ns.map V.int) ∧ ns.length ≤ 63 ∧
  ∀ (b l : Addr) (H' : Hp), BoxAt H' b l → Same H H' → H b = none → H l = none → Q (.ref b) H'
theorem sc_begun : FnScope ["_law_script", "_law_stirred", "_law_cell_here"] ["_law_script"] (defScope s_begun) := ⟨rfl, rfl, rfl, by decide +kernel, rfl, by decide +kernel, by decide +kernel⟩
theorem ok_begun {f : Addr} {fd : FuncData} (T : Txt mg) (F : Fun K "_law_begun" "_law_begun" s_begun f fd) : FnOk P w K mg base CX0 1 f fd ["_law_script"] (spBegun K) := by
  refine F.ok sc_begun (fun vs H Q E h => ?_) (fun cdv A outer s H vs Q E hr h => ?_)
  · obtain ⟨a, ns, rfl, _⟩ := h
    rfl
  · obtain ⟨a, ns, rfl, hS, hl, k⟩ := h
    have nd := sc_begun.nd
    refine ⟨_, pss_cons (ps_set (i := 1) nd rfl (.inl rfl) pe_int) (pss_cons (ps_for PassesOwn.never rfl (pi_list (pv 0)) (pg_name (i := 2) nd rfl (.inl rfl))
        (pss_one (ps_set (i := 1) nd rfl (.inl rfl) (pe_op op_modN (pe_op op_add (pe_op op_add (pe_op op_mul (pv 1) pe_int) (pe_op op_mul (pv 2) pe_int)) pe_int) pe_int))))
      (pss_one (ps_ret (pe_lst (pa_cons (pe_callTy call_list_of (by rfl) T.list (by decide +kernel) (pa_cons (pv 0) pa_nil))
        (pa_cons (pe_op op_mul (pv 1) (pe_callTy call_int1 (by rfl) T.int (by decide +kernel) (pa_cons (pe_cmpR op_gt (pe_callB call_len_seq (by rfl) T.len PySem.boot_len (pa_cons (pv 0) pa_nil)) pe_int (nomark _)) pa_nil))) pa_nil)))))), ?_⟩
    refine ⟨_, rfl, a, rfl, ⟨_, hS⟩, for_list (xs := ns.map V.int) (fun _ σ H1 => H1 = H ∧ ∃ st c, σ = [some (.ref a), some (.int st), c]) ⟨rfl, 0, _, rfl⟩ (fun i σ H1 _ p => by rw [p.1]; exact hS) ?_ ?_⟩
    · rintro i x σ H1 hx ⟨rfl, st, c, rfl⟩
      obtain ⟨n, rfl⟩ : ∃ n, x = V.int n := by
        rw [List.getElem?_map] at hx
        cases e : ns[i]? with
        | none => rw [e] at hx; cases hx
        | some n => rw [e] at hx; cases hx; exact ⟨n, rfl⟩
      exact ⟨_, rfl, st, 48271, rfl, rfl, .inr (by decide), _, rfl, n, 69621, rfl, rfl, .inr (by decide), _, _, rfl, rfl, _, 11, rfl, rfl, _, 2147483647, rfl, rfl, nz (by decide), rfl, _, _, rfl⟩
    · rintro σ H1 ⟨rfl, st, c, rfl⟩
      refine ⟨_, rfl, a, _, rfl, .inl hS, fun l nl => ?_⟩
      have hS2 : SqL K (upd H1 l (.lst (ns.map V.int))) a (ns.map V.int) := by
        rcases hS with (z | ⟨o, z⟩) | z
        · exact .inl (.inl (by rw [upd_ne (ne_of_none z nl)]; exact z))
        · exact .inl (.inr ⟨o, by rw [upd_ne (ne_of_none z nl)]; exact z⟩)
        · exact .inr z
      refine ⟨_, rfl, _, rfl, a, _, rfl, .inl hS2, _, 2, rfl, rfl, .inr ⟨_, rfl, st, _, rfl, rfl, .inr (by split <;> decide), (by show 2 ≤ sizeLine; decide), fun b nb => ?_⟩⟩
      have nb1 : H1 b = none := by
        by_cases e : b = l
        · rw [e, upd_same] at nb; cases nb
        · rw [upd_ne e] at nb; exact nb
      have nlb : l ≠ b := fun z => by rw [← z, upd_same] at nb; cases nb
      refine k b l _ ⟨ns, _, upd_same, by rw [upd_ne nlb, upd_same], hl⟩ (fun c o e => ?_) nb1 nl
      rw [upd_ne (ne_of_none e nb1), upd_ne (ne_of_none e nl)]
      exact e
mutual
def dok : PyData → Bool
  | .list xs | .tuple xs => decide (xs.length ≤ 1000) && dokAll xs
  | .dict _ => false
  | .none | .bool _ | .int _ | .str _ => true
def dokAll : List PyData → Bool
  | [] => true
  | x :: xs => dok x && dokAll xs
end
theorem dokAll_get : ∀ {ds : List PyData} {i : Nat} {d : PyData}, dokAll ds = true → ds[i]? = some d → dok d = true
  | [], _, _, _, h => by simp at h
  | x :: xs, 0, d, h, e => by
    simp only [dokAll, Bool.and_eq_true] at h
    cases e
    exact h.1
  | x :: xs, i + 1, d, h, e => by
    simp only [dokAll, Bool.and_eq_true] at h
    exact dokAll_get h.2 (by simpa using e)
theorem depthAll_get : ∀ {ds : List PyData} {i : Nat} {d : PyData}, ds[i]? = some d → d.depth ≤ PyData.depthAll ds
  | [], _, _, h => by simp at h
  | x :: xs, 0, d, e => by
    cases e
    simp only [PyData.depthAll]
    exact Nat.le_max_left _ _
  | x :: xs, i + 1, d, e => by
    simp only [PyData.depthAll]
    exact Nat.le_trans (depthAll_get (i := i) (by simpa using e)) (Nat.le_max_right _ _)
theorem dp_len {H : Hp} : ∀ {vs : List V} {ds : List PyData}, DpAll K H vs ds → vs.length = ds.length
  | [], [], _ => rfl
  | _ :: _, _ :: _, h => by
    cases h with
    | cons _ t => rw [List.length_cons, List.length_cons, dp_len t]
theorem dp_get {H : Hp} : ∀ {vs : List V} {ds : List PyData} {i : Nat} {v : V}, DpAll K H vs ds → vs[i]? = some v → ∃ d, ds[i]? = some d ∧ Dp K H v d
  | [], [], _, _, _, h => by simp at h
  | x :: vs, y :: ds, 0, v, h, e => by
    cases h with
    | cons h1 _ =>
      cases e
      exact ⟨y, rfl, h1⟩
  | x :: vs, y :: ds, i + 1, v, h, e => by
    cases h with
    | cons _ h2 => simpa using dp_get (i := i) h2 (by simpa using e)
theorem ty_list {H : Hp} {a : Addr} {xs : List V} (h : SqL K H a xs) : TyX K H (.ref a) (.type "list") := by
  rcases h with (z | ⟨o, z⟩) | ⟨o, its, n, z, c, _⟩
  · exact .base (.lst z)
  · exact .base (.frz z)
  · exact .kList z c
theorem ty_tup {H : Hp} {a : Addr} {xs : List V} (h : SqT K H a xs) : TyX K H (.ref a) (.type "tuple") := by
  rcases h with (z | ⟨o, z⟩) | ⟨o, its, n, z, c, _⟩
  · exact .base (.tup z)
  · exact .fTuple z
  · exact .kTuple z c
def spAlike (K : PySem.W.Frag) (n : Nat) : Sp := fun vs H Q _ => ∃ (x y : V) (d : PyData), vs = [x, y] ∧ Dp K H x d ∧ Dp K H y d ∧ d.depth < n ∧ dok d = true ∧ Q (.bl true) H
theorem sc_alike : FnScope ["_law_found", "_law_due_here", "_law_k"] ["_law_found", "_law_due_here"] (defScope s_alike) := ⟨rfl, rfl, rfl, by decide +kernel, rfl, by decide +kernel, by decide +kernel⟩
theorem ok_alike {f : Addr} {fd : FuncData} (T : Txt mg) (F : Fun K "_law_alike" "_law_alike" s_alike f fd) (b : Binds K fd ["_law_found", "_law_due_here"] []) (mgf : mg "_law_alike" = some (.ref f)) : ∀ n, FnOk P w K mg base CX0 (n + 1) f fd ["_law_found", "_law_due_here"] (spAlike K n) := by
  intro n
  induction n with
  | zero =>
    refine F.ok sc_alike (fun vs H Q E h => ?_) (fun cdv A outer s H vs Q E hr h => ?_)
    · obtain ⟨x, y, d, rfl, _⟩ := h
      rfl
    · obtain ⟨x, y, d, rfl, _, _, h, _⟩ := h
      exact absurd h (Nat.not_lt_zero _)
  | succ n G =>
    refine F.ok sc_alike (fun vs H Q E h => ?_) (fun cdv A outer s H vs Q E hr h => ?_)
    · obtain ⟨x, y, d, rfl, _⟩ := h
      rfl
    · obtain ⟨x, y, d, rfl, hx, hy, hd, hk, k⟩ := h
      have nd := sc_alike.nd
      refine ⟨_, pss_cons (ps_if (pt_cmpR op_isN (pv 1) pe_non (nomark _)) (pss_one (ps_ret (pe_cmpR op_isN (pv 0) pe_non (nomark _)))) pss_nil)
        (pss_cons (ps_if (pt_val (pe_callB call_isi (by rfl) T.isin (by decide +kernel) (pa_cons (pv 1) (pa_cons (pe_bltn (v := .ty "bool") (by rfl) T.bool (by decide +kernel) rfl) pa_nil)))) (pss_one (ps_ret (pe_and (pe_callB call_isi (by rfl) T.isin (by decide +kernel) (pa_cons (pv 0) (pa_cons (pe_bltn (v := .ty "bool") (by rfl) T.bool (by decide +kernel) rfl) pa_nil))) (pe_one (pe_cmpR op_eq (pv 0) (pv 1) (nomark _)))))) pss_nil)
        (pss_cons (ps_if (pt_val (pe_callB call_isi (by rfl) T.isin (by decide +kernel) (pa_cons (pv 1) (pa_cons (pe_bltn (v := .ty "int") (by rfl) T.int (by decide +kernel) rfl) pa_nil)))) (pss_one (ps_ret (pe_and (pe_callB call_isi (by rfl) T.isin (by decide +kernel) (pa_cons (pv 0) (pa_cons (pe_bltn (v := .ty "int") (by rfl) T.int (by decide +kernel) rfl) pa_nil))) (pe_and (pe_not (pe_callB call_isi (by rfl) T.isin (by decide +kernel) (pa_cons (pv 0) (pa_cons (pe_bltn (v := .ty "bool") (by rfl) T.bool (by decide +kernel) rfl) pa_nil)))) (pe_one (pe_cmpR op_eq (pv 0) (pv 1) (nomark _))))))) pss_nil)
        (pss_cons (ps_if (pt_val (pe_callB call_isi (by rfl) T.isin (by decide +kernel) (pa_cons (pv 1) (pa_cons (pe_bltn (v := .ty "str") (by rfl) T.str (by decide +kernel) rfl) pa_nil)))) (pss_one (ps_ret (pe_and (pe_callB call_isi (by rfl) T.isin (by decide +kernel) (pa_cons (pv 0) (pa_cons (pe_bltn (v := .ty "str") (by rfl) T.str (by decide +kernel) rfl) pa_nil))) (pe_one (pe_cmpR op_eq (pv 0) (pv 1) (nomark _)))))) pss_nil)
        (pss_cons (ps_if (PW.pt (pw_or (pt_cmpR op_ne (pe_callB call_isi (by rfl) T.isin (by decide +kernel) (pa_cons (pv 1) (pa_cons (pe_bltn (v := .ty "tuple") (by rfl) T.tuple (by decide +kernel) rfl) pa_nil))) (pe_callB call_isi (by rfl) T.isin (by decide +kernel) (pa_cons (pv 0) (pa_cons (pe_bltn (v := .ty "tuple") (by rfl) T.tuple (by decide +kernel) rfl) pa_nil))) (nomark _))
            (pw_or1 (pt_cmpR op_ne (pe_callB call_isi (by rfl) T.isin (by decide +kernel) (pa_cons (pv 1) (pa_cons (pe_bltn (v := .ty "list") (by rfl) T.list (by decide +kernel) rfl) pa_nil))) (pe_callB call_isi (by rfl) T.isin (by decide +kernel) (pa_cons (pv 0) (pa_cons (pe_bltn (v := .ty "list") (by rfl) T.list (by decide +kernel) rfl) pa_nil))) (nomark _))))) (pss_one (ps_ret pe_bl)) pss_nil)
        (pss_cons (ps_if (pt_cmpR op_ne (pe_callB call_len_seq (by rfl) T.len PySem.boot_len (pa_cons (pv 0) pa_nil)) (pe_callB call_len_seq (by rfl) T.len PySem.boot_len (pa_cons (pv 1) pa_nil)) (nomark _)) (pss_one (ps_ret pe_bl)) pss_nil)
        (pss_cons (ps_for PassesOwn.never rfl (pi_range1 (by rfl) T.range (pa_cons (pe_callB call_len_seq (by rfl) T.len PySem.boot_len (pa_cons (pv 1) pa_nil)) pa_nil)) (pg_name (i := 2) nd rfl (.inl rfl))
          (pss_one (ps_if (pt_not (pt_val (pe_call G hr (by rfl) mgf F.kp b .nil pass0 (pa_cons (pe_ix ix_seq (pv 0) (pv 2) (fun _ _ => rfl)) (pa_cons (pe_ix ix_seq (pv 1) (pv 2) (fun _ _ => rfl)) pa_nil))))) (pss_one (ps_ret pe_bl)) pss_nil)))
        (pss_one (ps_ret pe_bl)))))))), ?_⟩
      cases hx with
      | non =>
        cases hy
        exact ⟨_, rfl, rfl, true, rfl, iteT ⟨_, rfl, rfl, k⟩⟩
      | bl c =>
        cases hy
        exact ⟨_, rfl, rfl, false, rfl, iteF ⟨_, rfl, _, _, _, _, true, rfl, .ty _, (.base (.bl c)), kit_ty (by decide +kernel), true, rfl, iteT ⟨_, rfl, _, _, _, _, true, rfl, .ty _, (.base (.bl c)), kit_ty (by decide +kernel), true, rfl, iteT ⟨_, rfl, _, rfl, rfl, by simpa using k⟩⟩⟩⟩
      | int i =>
        cases hy
        exact ⟨_, rfl, rfl, false, rfl, iteF ⟨_, rfl, _, _, _, _, false, rfl, .ty _, (.base (.int i)), kit_ty (by decide +kernel), false, rfl, iteF ⟨_, rfl, _, _, _, _, true, rfl, .ty _, (.base (.int i)), kit_ty (by decide +kernel), true, rfl, iteT ⟨_, rfl, _, _, _, _, true, rfl, .ty _, (.base (.int i)), kit_ty (by decide +kernel), true, rfl, iteT
          ⟨_, rfl, _, _, _, _, false, rfl, .ty _, (.base (.int i)), kit_ty (by decide +kernel), false, rfl, true, rfl, iteT ⟨_, rfl, _, rfl, rfl, by simpa using k⟩⟩⟩⟩⟩⟩
      | str z =>
        cases hy
        exact ⟨_, rfl, rfl, false, rfl, iteF ⟨_, rfl, _, _, _, _, false, rfl, .ty _, (.base (.str z)), kit_ty (by decide +kernel), false, rfl, iteF ⟨_, rfl, _, _, _, _, false, rfl, .ty _, (.base (.str z)), kit_ty (by decide +kernel), false, rfl, iteF ⟨_, rfl, _, _, _, _, true, rfl, .ty _, (.base (.str z)), kit_ty (by decide +kernel), true, rfl, iteT
          ⟨_, rfl, _, _, _, _, true, rfl, .ty _, (.base (.str z)), kit_ty (by decide +kernel), true, rfl, iteT ⟨_, rfl, _, rfl, rfl, by simpa using k⟩⟩⟩⟩⟩⟩
      | @lst p xs ds sx ax =>
        cases hy with
        | @lst q ys _ sy ay =>
          refine ⟨_, rfl, rfl, false, rfl, iteF ⟨_, rfl, _, _, _, _, false, rfl, .ty _, (ty_list sy), kit_ty (by decide +kernel), false, rfl, iteF ⟨_, rfl, _, _, _, _, false, rfl, .ty _, (ty_list sy), kit_ty (by decide +kernel), false, rfl, iteF ⟨_, rfl, _, _, _, _, false, rfl, .ty _, (ty_list sy), kit_ty (by decide +kernel), false, rfl, iteF
            ⟨_, rfl, _, _, _, _, false, rfl, .ty _, (ty_list sy), kit_ty (by decide +kernel), _, rfl, _, _, _, _, false, rfl, .ty _, (ty_list sx), kit_ty (by decide +kernel), rfl, false, rfl, iteF ⟨_, rfl, _, _, _, _, true, rfl, .ty _, (ty_list sy), kit_ty (by decide +kernel), _, rfl, _, _, _, _, true, rfl, .ty _, (ty_list sx), kit_ty (by decide +kernel), rfl, false, rfl, iteF ?_⟩⟩⟩⟩⟩⟩
          simp only [dok, Bool.and_eq_true, decide_eq_true_eq] at hk
          simp only [PyData.depth] at hd
          have lx := dp_len ax
          have ly := dp_len ay
          refine ⟨_, rfl, p, xs, rfl, .inl sx, _, rfl, q, ys, rfl, .inl sy, rfl, false, by rw [lx, ly]; simp, iteF ?_⟩
          refine ⟨_, rfl, q, ys, rfl, .inl sy, _, rfl, by omega, by omega, for_range (n := (ys.length : Int).toNat) (fun _ σ H' => H' = H ∧ ∃ c, σ = [some (.ref p), some (.ref q), c]) ⟨rfl, _, rfl⟩ ?_ ?_⟩
          · rintro i σ H' hi ⟨rfl, c, rfl⟩
            have hi1 : i < xs.length := by omega
            have hi2 : i < ys.length := by omega
            obtain ⟨d1, e1, dx⟩ := dp_get ax (List.getElem?_eq_getElem hi1)
            obtain ⟨d2, e2, dy⟩ := dp_get ay (List.getElem?_eq_getElem hi2)
            rw [e1] at e2
            cases e2
            refine ⟨_, rfl, _, rfl, .inl ⟨p, xs, _, _, rfl, rfl, sx, by rw [Int.zero_add]; exact atI_nat (List.getElem?_eq_getElem hi1), ⟨_, rfl, _, rfl, .inl ⟨q, ys, _, _, rfl, rfl, sy, by rw [Int.zero_add]; exact atI_nat (List.getElem?_eq_getElem hi2), ?_⟩⟩⟩⟩
            exact ⟨_, _, d1, rfl, dx, dy, by have := depthAll_get e1; omega, dokAll_get hk.2 e1, true, rfl, iteF ⟨rfl, _, rfl⟩⟩
          · rintro σ H' ⟨rfl, c, rfl⟩
            exact k
      | @tup p xs ds sx ax =>
        cases hy with
        | @tup q ys _ sy ay =>
          refine ⟨_, rfl, rfl, false, rfl, iteF ⟨_, rfl, _, _, _, _, false, rfl, .ty _, (ty_tup sy), kit_ty (by decide +kernel), false, rfl, iteF ⟨_, rfl, _, _, _, _, false, rfl, .ty _, (ty_tup sy), kit_ty (by decide +kernel), false, rfl, iteF ⟨_, rfl, _, _, _, _, false, rfl, .ty _, (ty_tup sy), kit_ty (by decide +kernel), false, rfl, iteF
            ⟨_, rfl, _, _, _, _, true, rfl, .ty _, (ty_tup sy), kit_ty (by decide +kernel), _, rfl, _, _, _, _, true, rfl, .ty _, (ty_tup sx), kit_ty (by decide +kernel), rfl, false, rfl, iteF ⟨_, rfl, _, _, _, _, false, rfl, .ty _, (ty_tup sy), kit_ty (by decide +kernel), _, rfl, _, _, _, _, false, rfl, .ty _, (ty_tup sx), kit_ty (by decide +kernel), rfl, false, rfl, iteF ?_⟩⟩⟩⟩⟩⟩
          simp only [dok, Bool.and_eq_true, decide_eq_true_eq] at hk
          simp only [PyData.depth] at hd
          have lx := dp_len ax
          have ly := dp_len ay
          refine ⟨_, rfl, p, xs, rfl, .inr sx, _, rfl, q, ys, rfl, .inr sy, rfl, false, by rw [lx, ly]; simp, iteF ?_⟩
          refine ⟨_, rfl, q, ys, rfl, .inr sy, _, rfl, by omega, by omega, for_range (n := (ys.length : Int).toNat) (fun _ σ H' => H' = H ∧ ∃ c, σ = [some (.ref p), some (.ref q), c]) ⟨rfl, _, rfl⟩ ?_ ?_⟩
          · rintro i σ H' hi ⟨rfl, c, rfl⟩
            have hi1 : i < xs.length := by omega
            have hi2 : i < ys.length := by omega
            obtain ⟨d1, e1, dx⟩ := dp_get ax (List.getElem?_eq_getElem hi1)
            obtain ⟨d2, e2, dy⟩ := dp_get ay (List.getElem?_eq_getElem hi2)
            rw [e1] at e2
            cases e2
            refine ⟨_, rfl, _, rfl, .inr (.inl ⟨p, xs, _, _, rfl, rfl, sx, by rw [Int.zero_add]; exact atI_nat (List.getElem?_eq_getElem hi1), ⟨_, rfl, _, rfl, .inr (.inl ⟨q, ys, _, _, rfl, rfl, sy, by rw [Int.zero_add]; exact atI_nat (List.getElem?_eq_getElem hi2), ?_⟩)⟩⟩)⟩
            exact ⟨_, _, d1, rfl, dx, dy, by have := depthAll_get e1; omega, dokAll_get hk.2 e1, true, rfl, iteF ⟨rfl, _, rfl⟩⟩
          · rintro σ H' ⟨rfl, c, rfl⟩
            exact k
end
end TG
namespace Gx
open PySem PySem.Spec PyProof.Rows L2 GenW
section
variable {J : It} {n : Nat} {G : Hp → Prop} {Y : Nat → Hp → V → Hp → Prop}
/-- all over a walk whose i-th element is f i -/
theorem all_by (w : Walk J n G Y) {te : TE} {Q : VK} {H2 : Hp} (f : Nat → Bool) (Pv : Nat → Hp → Prop) (h0 : Pv 0 H2) (hG : ∀ i H, i ≤ n → Pv i H → G H)
    (hs : ∀ i v H H', i < n → Pv i H → Y i H v H' → ∀ Z : VK, (∀ H3, Pv (i + 1) H3 → Z (.bl (f i)) H3) → te [some v] H' Z)
    (hT : ∀ H, Pv n H → (∀ i, i < n → f i = true) → Q (.bl true) H) (hF : ∀ i H, i < n → f i = false → Pv (i + 1) H → Q (.bl false) H) :
    ∃ W : WT, (∃ m, W m [] H2) ∧ ∀ m ys H, W m ys H → (J.stop ys.length H ∧ (fun (_ : List V) H => Q (.bl true) H) ys H) ∨
      (J.go ys.length H ∧ ∀ v H', J.yld ys.length H v H' → te [some v] H' (NyAll (fun b H => Q (.bl b) H) W m ys)) := by
  refine ⟨fun m ys H => m = n - ys.length ∧ ys.length ≤ n ∧ Pv ys.length H ∧ ∀ i, i < ys.length → f i = true, ⟨n, by simp, Nat.zero_le _, h0, fun i hi => absurd hi (Nat.not_lt_zero _)⟩, ?_⟩
  rintro m ys H ⟨rfl, hl, hp, ht⟩
  have q := hG _ H hl hp
  by_cases hlt : ys.length < n
  · refine .inr ⟨w.goes _ H hlt q, fun v H' y => hs _ v H H' hlt hp (w.yields _ H v H' hlt q y) _ fun H3 p3 => ⟨f ys.length, rfl, ?_⟩⟩
    cases hf : f ys.length with
    | true =>
      refine iteT ⟨n - (ys.length + 1), by omega, by rw [List.length_append, List.length_singleton], by rw [List.length_append, List.length_singleton]; exact hlt, by rw [List.length_append, List.length_singleton]; exact p3, fun i hi => ?_⟩
      rw [List.length_append, List.length_singleton] at hi
      by_cases e : i = ys.length
      · rw [e]; exact hf
      · exact ht i (by omega)
    | false => exact iteF (hF _ H3 hlt hf p3)
  · have e : ys.length = n := by omega
    exact .inl ⟨by rw [e]; exact w.stops H q, hT H (e ▸ hp) fun i hi => ht i (by omega)⟩
end
def Tabs (cs : List (Addr × Addr)) (H : Hp) : Prop := ∀ p ∈ cs, GxR.TabG H p.2
theorem tab_ext {P : Addr} {H H' : Hp} (t : GxR.TabG H P) (x : GxR.Tabbed P H H') : LamX.ExtN H H' := fun b o e n => by
  by_cases hb : b = P
  · obtain ⟨ps, h1, _⟩ := t
    rw [hb, h1] at e
    cases e
    exact absurd rfl (n ps)
  · rw [x.2 b hb]; exact e
theorem tabs_tab {cs : List (Addr × Addr)} {P : Addr} {H H' : Hp} (t : Tabs cs H) (x : GxR.Tabbed P H H') : Tabs cs H' := fun p hp => by
  by_cases hb : p.2 = P
  · rw [hb]; exact x.1
  · obtain ⟨ps, h1, h2⟩ := t p hp
    exact ⟨ps, by rw [x.2 _ hb]; exact h1, h2⟩
/-- all but tables stays, the tables are tables -/
structure Ex (cs : List (Addr × Addr)) (H H' : Hp) : Prop where
  ext : LamX.ExtN H H'
  tab : Tabs cs H'
  old : ∀ b, H' b = none → H b = none
  oth : ∀ b o, H b = some o → (∀ p ∈ cs, p.2 ≠ b) → H' b = some o
theorem Ex.refl {cs : List (Addr × Addr)} {H : Hp} (t : Tabs cs H) : Ex cs H H := ⟨LamX.ExtN.refl H, t, fun _ h => h, fun _ _ e _ => e⟩
theorem Ex.trans {cs : List (Addr × Addr)} {H H1 H2 : Hp} (a : Ex cs H H1) (b : Ex cs H1 H2) : Ex cs H H2 := ⟨a.ext.trans b.ext, b.tab, fun c h => a.old c (b.old c h), fun c o e m => b.oth c o (a.oth c o e m) m⟩
theorem Ex.tabbed {cs : List (Addr × Addr)} {q : Addr × Addr} {H H' : Hp} (t : Tabs cs H) (m : q ∈ cs) (x : GxR.Tabbed q.2 H H') : Ex cs H H' := ⟨tab_ext (t q m) x, tabs_tab t x, fun b h => by
  by_cases hb : b = q.2
  · obtain ⟨ps, h1, _⟩ := x.1
    rw [hb, h1] at h
    cases h
  · rw [x.2 b hb] at h; exact h, fun b o e n => by
  rw [x.2 b (fun z => n q m z.symm)]
  exact e⟩
theorem upd_none {H : Hp} {a b : Addr} {o : HO} (h : upd H a o b = none) : H b = none ∧ b ≠ a := by
  by_cases hb : b = a
  · rw [hb, upd_same] at h; cases h
  · rw [upd_ne hb] at h; exact ⟨h, hb⟩
theorem Ex.laid {cs : List (Addr × Addr)} {H : Hp} {a : Addr} {o : HO} (t : Tabs cs H) (n : H a = none) : Ex cs H (upd H a o) :=
  ⟨fun b u e _ => by rw [upd_ne (ne_of_none e n)]; exact e, fun p hp => by
    obtain ⟨ps, h1, h2⟩ := t p hp
    exact ⟨ps, by rw [upd_ne (ne_of_none h1 n)]; exact h1, h2⟩, fun b h => (upd_none h).1, fun b u e _ => by
    rw [upd_ne (ne_of_none e n)]
    exact e⟩
/-- a new object, written again -/
theorem ex_new {cs : List (Addr × Addr)} {H H' : Hp} {D : Addr} {o : HO} (t : Tabs cs H) (e : Ex cs H H') (n : H D = none) : Ex cs H (upd H' D o) :=
  ⟨fun b u h m => by rw [upd_ne (ne_of_none h n)]; exact e.ext b u h m, fun p hp => by
    obtain ⟨ps, h1, _⟩ := t p hp
    obtain ⟨ps', h3, h4⟩ := e.tab p hp
    exact ⟨ps', by rw [upd_ne (ne_of_none h1 n)]; exact h3, h4⟩, fun b h => e.old b (upd_none h).1, fun b u h m => by
    rw [upd_ne (ne_of_none h n)]
    exact e.oth b u h m⟩
theorem Ex.lst {cs : List (Addr × Addr)} {H H' : Hp} {a : Addr} {xs : List V} (e : Ex cs H H') (h : H a = some (.lst xs)) : H' a = some (.lst xs) := e.ext _ _ h fun ps q => by cases q
theorem Ex.tup {cs : List (Addr × Addr)} {H H' : Hp} {a : Addr} {xs : List V} (e : Ex cs H H') (h : H a = some (.tup xs)) : H' a = some (.tup xs) := e.ext _ _ h fun ps q => by cases q
theorem Ex.sqL {cs : List (Addr × Addr)} {K : PySem.W.Frag} {H H' : Hp} {a : Addr} {xs : List V} (e : Ex cs H H') (h : SqL K H a xs) : SqL K H' a xs := by
  rcases h with (z | ⟨o, z⟩) | z
  · exact .inl (.inl (e.ext _ _ z fun ps q => by cases q))
  · exact .inl (.inr ⟨o, e.ext _ _ z fun ps q => by cases q⟩)
  · exact .inr z
theorem Ex.sqT {cs : List (Addr × Addr)} {K : PySem.W.Frag} {H H' : Hp} {a : Addr} {xs : List V} (e : Ex cs H H') (h : SqT K H a xs) : SqT K H' a xs := by
  rcases h with (z | ⟨o, z⟩) | z
  · exact .inl (.inl (e.ext _ _ z fun ps q => by cases q))
  · exact .inl (.inr ⟨o, e.ext _ _ z fun ps q => by cases q⟩)
  · exact .inr z
/-- a def whose code object is known -/
theorem fun_okT {P : Program} {w : World} {K : PySem.W.Frag} {mg : Str → Option Value} {base : Heap} {x qual : Str} {st : Stmt} {f c : Addr} {fd : FuncData} {N ps : List Str} {k : Nat} {sp : Sp} (F : Fun K x qual st f fd) (hc : fd.code = .ref c) (S : FnScope N ps (defScope st)) (len : ∀ vs H Q E, sp vs H Q E → vs.length = ps.length)
    (hbody : ∀ (A : Around) (outer : List Env) (s : Shared) (H : Hp) (vs : List V) (Q : VK) (E : XK), Room k (A.deeper (envOfC qual (defScope st) s.heap.objs.size f (.ref c))) → sp vs H Q E →
      ∃ t, PSs (cxOf CX0 P w K mg base N qual (defScope st) f (.ref c) A outer s H E).nox (defBody st) t ∧ t { nx := fun _ H' => Q .non H', rt := Q } (start N vs) H) : FnOk P w K mg base CX0 (k + 1) f fd ps sp := by
  obtain ⟨oc, od, kV, doc, pm, an, cdv, ct, osl, rfl, lk, hcd⟩ := F.ex
  have e : cdv = .ref c := hc
  subst e
  refine fn_of lk hcd S len fun A outer s H vs Q E hr hsp => ?_
  obtain ⟨t, h, q⟩ := hbody A outer s H vs Q E hr hsp
  exact ⟨t, h.nox, q⟩
end Gx
namespace TG
open PySem L2 Gx
def SgOk (c : Nat) : Prop := 32 ≤ c ∧ c ≤ 126 ∧ c ≠ 37
structure CellOk (z : Str) : Prop where
  len : z.length ≤ 10
  sg : ∀ c ∈ z.cps.toList, SgOk c
structure RowOk (r : List Str) : Prop where
  pos : 1 ≤ r.length
  len : r.length ≤ 6
  cells : ∀ z ∈ r, CellOk z
abbrev sV (r : List Str) : List V := r.map V.str
theorem line10 {n : Nat} (h : n ≤ 1000) : n ≤ sizeLine := Nat.le_trans h (by decide)
theorem dT {c : Prop} [Decidable c] (h : c) : V.bl (decide c) = V.bl true := by rw [decide_eq_true h]
theorem dF {c : Prop} [Decidable c] (h : ¬ c) : V.bl (decide c) = V.bl false := by rw [decide_eq_false h]
theorem qN {c : Prop} [Decidable c] {Q : VK} {H : Hp} (h : ¬ c) (k : Q (.bl true) H) : Q (.bl (!decide c)) H := by rw [decide_eq_false h]; exact k
structure Consts (mg : Str → Option Value) : Prop where
  blank : ∃ t, mg "BLANK" = some (.int 32 t)
  tilde : ∃ t, mg "TILDE" = some (.int 126 t)
  percent : ∃ t, mg "PERCENT" = some (.int 37 t)
  rows : ∃ t, mg "MOST_ROWS" = some (.int 30 t)
  cells : ∃ t, mg "MOST_CELLS" = some (.int 6 t)
  signs : ∃ t, mg "MOST_SIGNS" = some (.int 10 t)
section
variable {P : Program} {w : World} {K : PySem.W.Frag} {mg : Str → Option Value} {base : Heap}
def spSg : Sp := fun vs H Q _ => ∃ c : Nat, vs = [.str ⟨#[c]⟩] ∧ SgOk c ∧ Q (.bl true) H
theorem sc_sg : FnScope ["sign"] ["sign"] (defScope s_is_sign) := ⟨rfl, rfl, rfl, by decide +kernel, rfl, by decide +kernel, by decide +kernel⟩
theorem ok_sg {f : Addr} {fd : FuncData} (T : Txt mg) (N : Consts mg) (F : Fun K "is_sign" "is_sign" s_is_sign f fd) : FnOk P w K mg base CX0 1 f fd ["sign"] spSg := by
  refine F.ok sc_sg (fun vs H Q E h => ?_) (fun cdv A outer s H vs Q E hr h => ?_)
  · obtain ⟨c, rfl, _⟩ := h
    rfl
  · obtain ⟨c, rfl, ⟨h1, h2, h3⟩, k⟩ := h
    obtain ⟨t1, e1⟩ := N.blank
    obtain ⟨t2, e2⟩ := N.tilde
    obtain ⟨t3, e3⟩ := N.percent
    refine ⟨_, pss_one (ps_ret (pe_and (pe_chain op_le op_le (pe_glob (v := .int 32) rfl e1 ⟨_, rfl⟩) (pe_callB call_ord (by rfl) T.ord (by decide +kernel) (pa_cons (pv 0) pa_nil)) (pe_glob (v := .int 126) rfl e2 ⟨_, rfl⟩))
      (pe_one (pe_cmpR op_ne (pe_callB call_ord (by rfl) T.ord (by decide +kernel) (pa_cons (pv 0) pa_nil)) (pe_glob (v := .int 37) rfl e3 ⟨_, rfl⟩) (nomark _))))), ?_⟩
    refine ⟨_, rfl, _, rfl, rfl, 32, (c : Int), rfl, rfl, true, dT (show (32 : Int) ≤ c by omega), iteT ⟨(c : Int), 126, rfl, rfl, ?_⟩⟩
    have e4 : V.bl (decide ((c : Int) ≤ 126)) = V.bl true := dT (by omega)
    refine ⟨true, e4, iteT ⟨_, rfl, _, rfl, rfl, rfl, qN (fun z => ?_) k⟩⟩
    injection z with z
    exact h3 (Int.ofNat.inj z)
def spText (cs : List (Addr × Addr)) : Sp := fun vs H Q _ => ∃ (z : Str) (m : Int), vs = [.str z, .int m] ∧ Tabs cs H ∧ (z.length : Int) ≤ m ∧ z.length ≤ 1000 ∧ (∀ c ∈ z.cps.toList, SgOk c) ∧ ∀ H', Ex cs H H' → Q (.bl true) H'
theorem sc_text : FnScope ["value", "most"] ["value", "most"] (defScope s_is_text) := ⟨rfl, rfl, rfl, by decide +kernel, rfl, by decide +kernel, by decide +kernel⟩
theorem ok_text {f c Pt g : Addr} {fd fdg : FuncData} {cs : List (Addr × Addr)} (T : Txt mg) (F : Fun K "is_text_of_signs" "is_text_of_signs" s_is_text f fd) (hc : fd.code = .ref c) (TB : GxR.TabB base mg c Pt) (hm : (c, Pt) ∈ cs)
    (G : FnOk P w K mg base CX0 1 g fdg ["sign"] spSg) (kp : PySem.W.keepIn K (.ref g) = true) (bd : Binds K fdg ["sign"] []) (mgg : mg "is_sign" = some (.ref g)) : FnOk P w K mg base CX0 5 f fd ["value", "most"] (spText cs) := by
  refine fun_okT F hc sc_text (fun vs H Q E h => ?_) (fun A outer s H vs Q E hr h => ?_)
  · obtain ⟨z, m, rfl, _⟩ := h
    rfl
  · obtain ⟨z, m, rfl, hT, h1, h2, h3, k⟩ := h
    refine ⟨_, pss_one (ps_ret (pe_and (pe_callB call_isi (by rfl) T.isin (by decide +kernel) (pa_cons (pv 0) (pa_cons (pe_bltn (v := .ty "str") (by rfl) T.str (by decide +kernel) rfl) pa_nil)))
      (pe_and (pe_cmpR op_le (pe_callB call_len_str (by rfl) T.len PySem.boot_len (pa_cons (pv 0) pa_nil)) (pv 1) (nomark _))
        (pe_one (pe_allG (k := 1) (P := Pt) hr (by rfl) T.all TB rfl ⟨rfl, rfl, by decide +kernel, by decide +kernel, rfl, rfl⟩ (pi_str (pv 0)) (fun A' code s4 H4 fp hr' => pe_call G hr' (by rfl) mgg kp bd .nil pass0 (pa_cons (pv 0) pa_nil)) (fun _ => rfl)))))), ?_⟩
    refine ⟨_, rfl, _, _, _, _, true, rfl, .ty _, .base (.str z), kit_ty (by decide +kernel), true, rfl, iteT ⟨_, rfl, z, rfl, line10 h2, _, rfl, _, _, rfl, rfl, true, dT h1, iteT ⟨_, rfl, z, rfl, hT _ hm, fun H2 hH2 => ?_⟩⟩⟩
    refine all_by (w := walk_str (z := z)) (fun _ => true) (fun _ H' => H' = H2) rfl (fun _ _ _ _ => trivial) (fun i v H3 H4 hi e y Z hZ => ?_) (fun H3 e _ => ?_) (fun i H3 _ e _ => by cases e)
    · obtain ⟨rfl, c, hc, rfl⟩ := y
      subst e
      refine ⟨_, rfl, c, rfl, h3 c ?_, hZ _ rfl⟩
      exact List.mem_of_getElem? (by rw [Array.getElem?_toList]; exact hc)
    · subst e
      exact k _ (Ex.tabbed hT hm hH2)
end
end TG
namespace TG
open PySem L2 Gx
/-- a page: its rows' tuples at as -/
structure PageAt (K : PySem.W.Frag) (H : Hp) (a : Addr) (as : List Addr) (rows : List (List Str)) : Prop where
  lst : SqL K H a (as.map V.ref)
  len : as.length = rows.length
  row : ∀ (i : Nat) (p : Addr) (r : List Str), as[i]? = some p → rows[i]? = some r → SqT K H p (sV r)
structure PgOk (rows : List (List Str)) : Prop where
  pos : 1 ≤ rows.length
  len : rows.length ≤ 30
  rows : ∀ r ∈ rows, RowOk r
theorem PageAt.ex {K : PySem.W.Frag} {cs : List (Addr × Addr)} {H H' : Hp} {a : Addr} {as : List Addr} {rows : List (List Str)} (p : PageAt K H a as rows) (e : Ex cs H H') : PageAt K H' a as rows :=
  ⟨e.sqL p.lst, p.len, fun i q r h1 h2 => e.sqT (p.row i q r h1 h2)⟩
theorem get_map {α β : Type} {f : α → β} {xs : List α} {i : Nat} {y : β} (h : (xs.map f)[i]? = some y) : ∃ x, xs[i]? = some x ∧ y = f x := by
  rw [List.getElem?_map] at h
  cases e : xs[i]? with
  | none => rw [e] at h; cases h
  | some x => rw [e] at h; cases h; exact ⟨x, rfl, rfl⟩
theorem getP {α : Type} {xs : List α} {i : Nat} (h : i < xs.length) : ∃ x, xs[i]? = some x := ⟨xs[i], List.getElem?_eq_getElem h⟩
section
variable {P : Program} {w : World} {K : PySem.W.Frag} {mg : Str → Option Value} {base : Heap} {cs : List (Addr × Addr)}
def spRow (K : PySem.W.Frag) (cs : List (Addr × Addr)) : Sp := fun vs H Q _ => ∃ (a : Addr) (r : List Str), vs = [.ref a] ∧ Tabs cs H ∧ SqT K H a (sV r) ∧ RowOk r ∧ ∀ H', Ex cs H H' → Q (.bl true) H'
theorem sc_row : FnScope ["value"] ["value"] (defScope s_is_row) := ⟨rfl, rfl, rfl, by decide +kernel, rfl, by decide +kernel, by decide +kernel⟩
theorem ok_isrow {f c Pt g : Addr} {fd fdg : FuncData} (T : Txt mg) (N : Consts mg) (F : Fun K "is_row" "is_row" s_is_row f fd) (hc : fd.code = .ref c) (TB : GxR.TabB base mg c Pt) (hm : (c, Pt) ∈ cs)
    (G : FnOk P w K mg base CX0 5 g fdg ["value", "most"] (spText cs)) (kp : PySem.W.keepIn K (.ref g) = true) (bd : Binds K fdg ["value", "most"] []) (mgg : mg "is_text_of_signs" = some (.ref g)) : FnOk P w K mg base CX0 9 f fd ["value"] (spRow K cs) := by
  refine fun_okT F hc sc_row (fun vs H Q E h => ?_) (fun A outer s H vs Q E hr h => ?_)
  · obtain ⟨a, r, rfl, _⟩ := h
    rfl
  · obtain ⟨a, r, rfl, hT, hS, ⟨p1, p2, p3⟩, k⟩ := h
    obtain ⟨t1, e1⟩ := N.cells
    obtain ⟨t2, e2⟩ := N.signs
    refine ⟨_, pss_cons (ps_if (PW.pt (pw_or (pt_not (pt_val (pe_callB call_isi (by rfl) T.isin (by decide +kernel) (pa_cons (pv 0) (pa_cons (pe_bltn (v := .ty "tuple") (by rfl) T.tuple (by decide +kernel) rfl) pa_nil)))))
        (pw_or1 (pt_not (pt_chain op_le op_le pe_int (pe_callB call_len_seq (by rfl) T.len PySem.boot_len (pa_cons (pv 0) pa_nil)) (pe_glob (v := .int 6) rfl e1 ⟨_, rfl⟩)))))) (pss_one (ps_ret pe_bl)) pss_nil)
      (pss_one (ps_ret (pe_allG (k := 5) (P := Pt) hr (by rfl) T.all TB rfl ⟨rfl, rfl, by decide +kernel, by decide +kernel, rfl, rfl⟩ (pi_tup (pv 0))
        (fun A' code s4 H4 fp hr' => pe_call G hr' (by rfl) mgg kp bd .nil pass0 (pa_cons (pv 0) (pa_cons (pe_glob (v := .int 10) rfl e2 ⟨_, rfl⟩) pa_nil))) (fun _ => rfl)))), ?_⟩
    have hl : (sV r).length = r.length := List.length_map ..
    refine ⟨_, rfl, _, _, _, _, true, rfl, .ty _, ty_tup hS, kit_ty (by decide +kernel), true, rfl, iteF ⟨_, rfl, a, _, rfl, .inr hS, 1, _, rfl, rfl, true, dT (by omega), iteT ⟨_, 6, rfl, rfl, true, dT (by omega), iteF ?_⟩⟩⟩
    refine ⟨_, rfl, a, rfl, ⟨_, hS⟩, hT _ hm, fun H2 hH2 => ?_⟩
    have x2 := Ex.tabbed hT hm hH2
    refine all_by (w := walk_tup (a := a) (xs := sV r)) (fun _ => true) (fun _ H' => Ex cs H H') x2 (fun i H' _ x => x.sqT hS) (fun i v H3 H4 hi x y Z hZ => ?_) (fun H3 x _ => k _ x) (fun i H3 _ e _ => by cases e)
    obtain ⟨rfl, hv⟩ := y
    obtain ⟨z, hz, rfl⟩ := get_map hv
    obtain ⟨c1, c2⟩ := p3 z (List.mem_of_getElem? hz)
    exact ⟨_, rfl, z, 10, rfl, x.tab, by omega, by omega, c2, fun H5 x5 => hZ _ (x.trans x5)⟩
def spCheck (K : PySem.W.Frag) (cs : List (Addr × Addr)) : Sp := fun vs H Q _ => ∃ (a : Addr) (as : List Addr) (rows : List (List Str)), vs = [.ref a] ∧ Tabs cs H ∧ PageAt K H a as rows ∧ PgOk rows ∧ ∀ H', Ex cs H H' → Q .non H'
theorem sc_misfit : FnScope ["rows", "number", "row"] ["rows"] (defScope s_misfit) := ⟨rfl, rfl, rfl, by decide +kernel, rfl, by decide +kernel, by decide +kernel⟩
theorem ok_misfit {f g : Addr} {fd fdg : FuncData} (T : Txt mg) (N : Consts mg) (F : Fun K "first_misfit" "first_misfit" s_misfit f fd)
    (G : FnOk P w K mg base CX0 9 g fdg ["value"] (spRow K cs)) (kp : PySem.W.keepIn K (.ref g) = true) (bd : Binds K fdg ["value"] []) (mgg : mg "is_row" = some (.ref g)) : FnOk P w K mg base CX0 10 f fd ["rows"] (spCheck K cs) := by
  refine F.ok sc_misfit (fun vs H Q E h => ?_) (fun cdv A outer s H vs Q E hr h => ?_)
  · obtain ⟨a, as, rows, rfl, _⟩ := h
    rfl
  · obtain ⟨a, as, rows, rfl, hT, hP, hO, k⟩ := h
    have nd := sc_misfit.nd
    obtain ⟨t1, e1⟩ := N.rows
    refine ⟨_, pss_cons (ps_for PassesOwn.never rfl (pi_enum (by rfl) T.enum (pa_cons (pv 0) pa_nil)) (pg_tup rfl (pgs_cons (pg_name (i := 1) nd rfl (.inl rfl)) (pgs_cons (pg_name (i := 2) nd rfl (.inl rfl)) pgs_nil)))
        (pss_one (ps_if (PW.pt (pw_or (pt_cmpR op_eq (pv 1) (pe_glob (v := .int 30) rfl e1 ⟨_, rfl⟩) (nomark _)) (pw_or1 (pt_not (pt_val (pe_call G hr (by rfl) mgg kp bd .nil pass0 (pa_cons (pv 2) pa_nil))))))) (pss_one ps_never) pss_nil)))
      (pss_one (ps_ret pe_non)), ?_⟩
    have hl : (as.map V.ref).length = rows.length := by rw [List.length_map]; exact hP.len
    have := hO.pos
    have := hO.len
    refine ⟨_, rfl, a, _, rfl, hP.lst, for_it (walk_enum (xs := as.map V.ref)) (fun _ σ H' => Ex cs H H' ∧ σ[0]? = some (some (.ref a)) ∧ σ.length = 3) ⟨Ex.refl hT, rfl, rfl⟩ (fun i σ H' _ x => x.1.sqL hP.lst) ?_ ?_⟩
    · rintro i x σ H3 H4 hi ⟨x3, s0, sl⟩ ⟨Tp, v, u, rfl, hn, rfl, hv, hu⟩
      cases hv
      obtain ⟨p, hp, rfl⟩ := get_map hu
      have hi2 : i < rows.length := by omega
      obtain ⟨r, hr2⟩ := getP hi2
      have xl := Ex.laid (o := .tup [.int (i : Nat), .ref p]) x3.tab hn
      refine ⟨Tp, _, rfl, .inl (.inl upd_same), rfl, _, _, rfl, _, _, rfl, rfl, ?_⟩
      have g1 : ((σ.set 1 (some (V.int (i : Nat)))).set 2 (some (V.ref p)))[1]? = some (some (V.int (i : Nat))) := by
        rw [List.getElem?_set_ne (by decide)]
        exact List.getElem?_set_self (by omega)
      have g2 : ((σ.set 1 (some (V.int (i : Nat)))).set 2 (some (V.ref p)))[2]? = some (some (V.ref p)) := List.getElem?_set_self (by rw [List.length_set]; omega)
      refine ⟨_, g1, rfl, false, dF (fun z => by injection z with z; omega), iteF ⟨_, g2, p, r, rfl, xl.tab, (x3.trans xl).sqT (hP.row i p r hp hr2), hO.rows r (List.mem_of_getElem? hr2), fun H5 x5 => ⟨true, rfl, iteF ⟨(x3.trans xl).trans x5, ?_, ?_⟩⟩⟩⟩
      · rw [List.getElem?_set_ne (by decide), List.getElem?_set_ne (by decide)]; exact s0
      · rw [List.length_set, List.length_set]; exact sl
    · rintro σ H' ⟨x, _⟩
      exact k H' x
theorem sc_check : FnScope ["page", "number"] ["page"] (defScope s_check_page) := ⟨rfl, rfl, rfl, by decide +kernel, rfl, by decide +kernel, by decide +kernel⟩
theorem ok_check {f g : Addr} {fd fdg : FuncData} (T : Txt mg) (F : Fun K "check_page" "check_page" s_check_page f fd)
    (G : FnOk P w K mg base CX0 10 g fdg ["rows"] (spCheck K cs)) (kp : PySem.W.keepIn K (.ref g) = true) (bd : Binds K fdg ["rows"] []) (mgg : mg "first_misfit" = some (.ref g)) : FnOk P w K mg base CX0 11 f fd ["page"] (spCheck K cs) := by
  refine F.ok sc_check (fun vs H Q E h => ?_) (fun cdv A outer s H vs Q E hr h => ?_)
  · obtain ⟨a, as, rows, rfl, _⟩ := h
    rfl
  · obtain ⟨a, as, rows, rfl, hT, hP, hO, k⟩ := h
    have nd := sc_check.nd
    refine ⟨_, pss_cons (ps_if (PW.pt (pw_or (pt_not (pt_val (pe_callB call_isi (by rfl) T.isin (by decide +kernel) (pa_cons (pv 0) (pa_cons (pe_bltn (v := .ty "list") (by rfl) T.list (by decide +kernel) rfl) pa_nil)))))
        (pw_or1 (pt_cmpR op_eq (pe_callB call_len_seq (by rfl) T.len PySem.boot_len (pa_cons (pv 0) pa_nil)) pe_int (nomark _))))) (pss_one ps_never) pss_nil)
      (pss_cons (ps_set (i := 1) nd rfl (.inl rfl) (pe_call G hr (by rfl) mgg kp bd .nil pass0 (pa_cons (pv 0) pa_nil)))
      (pss_one (ps_if (pt_cmpR op_notN (pv 1) pe_non (nomark _)) (pss_one ps_never) pss_nil))), ?_⟩
    have hl : (as.map V.ref).length = rows.length := by rw [List.length_map]; exact hP.len
    have := hO.pos
    have := hO.len
    refine ⟨_, rfl, _, _, _, _, true, rfl, .ty _, ty_list hP.lst, kit_ty (by decide +kernel), true, rfl, iteF ⟨_, rfl, a, _, rfl, .inl hP.lst, rfl, false, dF (fun z => by injection z with z; omega), iteF ?_⟩⟩
    exact ⟨_, rfl, a, as, rows, rfl, hT, hP, hO, fun H' x => ⟨_, rfl, rfl, false, rfl, iteF (k H' x)⟩⟩
structure StyleAt (K : PySem.W.Frag) (H : Hp) (a : Addr) (gap least : Int) : Prop where
  tup : SqT K H a [.int gap, .int least]
  g0 : 0 ≤ gap
  g1 : gap ≤ 4
  l0 : 0 ≤ least
  l1 : least ≤ 12
end
end TG
namespace TG
open PySem L2 Gx
abbrev cl (z : Str) : List Nat := z.cps.toList
def restL (l : List Nat) : List Nat := if l.head? = some 45 then l.tail else l
def figB (z : Str) : Bool := decide (restL (cl z) ≠ []) && (restL (cl z)).all fun c => decide (48 ≤ c ∧ c ≤ 57)
theorem str_ext {a b : Str} (h : cl a = cl b) : a = b := by
  obtain ⟨⟨a⟩⟩ := a
  obtain ⟨⟨b⟩⟩ := b
  have h : a = b := h
  rw [h]
section
variable {P : Program} {w : World} {K : PySem.W.Frag} {mg : Str → Option Value} {base : Heap} {cs : List (Addr × Addr)}
end
end TG
namespace TG
open PySem L2 Gx
def fillB (zs : List Str) : List Str := zs.filter fun z => decide (cl z ≠ [])
def rightB (zs : List Str) : Bool := decide (fillB zs ≠ []) && (fillB zs).all figB
section
variable {P : Program} {w : World} {K : PySem.W.Frag} {mg : Str → Option Value} {base : Heap} {cs : List (Addr × Addr)}
end
end TG
namespace TG
open PySem L2 Gx
def clB (rows : List (List Str)) (c i : Nat) : Bool := match rows[i]? with
  | some r => decide (c + 1 < r.length)
  | none => false
def hiB (rows : List (List Str)) (c i : Nat) : Nat := i + ((rows.drop i).takeWhile fun r => decide (c + 1 < r.length)).length
/-- pairs of numbers at ts -/
structure PairsAt (H : Hp) (ts : List Addr) (ps : List (Nat × Nat)) : Prop where
  len : ts.length = ps.length
  at_ : ∀ (i : Nat) (t : Addr) (p : Nat × Nat), ts[i]? = some t → ps[i]? = some p → H t = some (.tup [.int (p.1 : Nat), .int (p.2 : Nat)])
theorem PairsAt.keep {H H' : Hp} {ts : List Addr} {ps : List (Nat × Nat)} (h : PairsAt H ts ps) (k : ∀ b xs, H b = some (.tup xs) → H' b = some (.tup xs)) : PairsAt H' ts ps := ⟨h.len, fun i t p h1 h2 => k _ _ (h.at_ i t p h1 h2)⟩
section
variable {P : Program} {w : World} {K : PySem.W.Frag} {mg : Str → Option Value} {base : Heap} {cs : List (Addr × Addr)}
end
end TG
namespace TG
open PySem L2 Gx
abbrev nilS : Str := ⟨#[]⟩
def cellsB (rows : List (List Str)) (c b e : Nat) : List Str := ((rows.drop b).take (e - b)).map fun r => r.getD c nilS
def longB : List Str → Nat
  | [] => 0
  | z :: zs => max z.length (longB zs)
def widthB (zs : List Str) (gap least : Int) : Int := if least > (longB zs : Int) + gap then least else (longB zs : Int) + gap
def holdB (zs : List Str) (b : Nat) (gap least : Int) : List Int := if least < (longB zs : Int) + gap then ((List.range zs.length).filter fun i => decide ((zs.getD i nilS).length = longB zs)).map fun i => ((b + i : Nat) : Int) else []
section
variable {P : Program} {w : World} {K : PySem.W.Frag} {mg : Str → Option Value} {base : Heap} {cs : List (Addr × Addr)}
/-- the told tuple at t, its holders at h -/
def DescAt (H : Hp) (t h : Addr) (c b e : Nat) (zs : List Str) (gap least : Int) : Prop :=
  H t = some (.tup [.int (c : Nat), .int (b : Nat), .int (e : Nat), .int (widthB zs gap least), .bl (rightB zs), .ref h]) ∧ H h = some (.lst ((holdB zs b gap least).map V.int))
end
end TG
namespace TG
open PySem L2 Gx
/-- the told tuples at ts, their holders at hs -/
structure DescsAt (H : Hp) (ts hs : List Addr) (es : List (Nat × Nat × Nat)) (rows : List (List Str)) (gap least : Int) : Prop where
  len : ts.length = es.length
  len2 : hs.length = es.length
  at_ : ∀ (i : Nat) (t h : Addr) (q : Nat × Nat × Nat), ts[i]? = some t → hs[i]? = some h → es[i]? = some q → DescAt H t h q.1 q.2.1 q.2.2 (cellsB rows q.1 q.2.1 q.2.2) gap least
theorem DescsAt.keep {H H' : Hp} {ts hs : List Addr} {es : List (Nat × Nat × Nat)} {rows : List (List Str)} {gap least : Int} (x : DescsAt H ts hs es rows gap least) (k : ∀ b o, H b = some o → (b ∈ ts ∨ b ∈ hs) → (∀ ps, o ≠ .tbl ps) → H' b = some o) : DescsAt H' ts hs es rows gap least :=
  ⟨x.len, x.len2, fun i t h q h1 h2 h3 => ⟨k _ _ (x.at_ i t h q h1 h2 h3).1 (.inl (List.mem_of_getElem? h1)) (fun ps z => by cases z), k _ _ (x.at_ i t h q h1 h2 h3).2 (.inr (List.mem_of_getElem? h2)) (fun ps z => by cases z)⟩⟩
theorem StyleAt.ex {K : PySem.W.Frag} {cs : List (Addr × Addr)} {H H' : Hp} {a : Addr} {gap least : Int} (p : StyleAt K H a gap least) (e : Ex cs H H') : StyleAt K H' a gap least := ⟨e.sqT p.tup, p.g0, p.g1, p.l0, p.l1⟩
section
variable {P : Program} {w : World} {K : PySem.W.Frag} {mg : Str → Option Value} {base : Heap} {cs : List (Addr × Addr)}
end
end TG
namespace TG
open PySem L2 Gx
theorem cl_app (x y : Str) : cl (x ++ y) = cl x ++ cl y := TL.tl_append x y
theorem joinL_nil : ∀ l : List (List Nat), TL.joinL [] l = l.flatten
  | [] => rfl
  | [p] => by simp [TL.joinL]
  | p :: q :: r => by
    show p ++ ([] ++ TL.joinL [] (q :: r)) = _
    rw [joinL_nil (q :: r)]
    rfl
theorem cl_join (ys : List Str) : cl (Txt.join "" ys) = (ys.map cl).flatten := by
  have e : ("" : Str) = SX.S [] := by decide +kernel
  have e2 : ys = (ys.map cl).map SX.S := by
    rw [List.map_map]
    conv => lhs; rw [← List.map_id ys]
    exact List.map_congr_left fun y _ => (SX.S_tl y).symm
  rw [e]
  conv => lhs; rw [e2]
  rw [SX.join_S, joinL_nil]
theorem num_ok {n : Int} (h0 : 0 ≤ n) (h1 : n < 10 ^ 9) : (Str.ofString (toString n)).length ≤ 9 ∧ ∀ c ∈ cl (Str.ofString (toString n)), 48 ≤ c ∧ c ≤ 57 := by
  refine ⟨PyProof.Rows.toString_length_le h0 (by decide) h1, fun c hc => ?_⟩
  obtain ⟨m, rfl⟩ := Int.eq_ofNat_of_zero_le h0
  have hc' : c ∈ (Str.ofString (toString ((m : Nat) : Int))).cps.toList := hc
  rw [PySem.W.KIN.signs_num] at hc'
  obtain ⟨ch, hch, e⟩ := List.mem_map.mp hc'
  have r := PyProof.Rows.digit_range (Nat.isDigit_of_mem_toDigits (by decide) (by decide) hch)
  rw [← e]
  exact r
instance (c : Nat) : Decidable (SgOk c) := inferInstanceAs (Decidable (32 ≤ c ∧ c ≤ 126 ∧ c ≠ 37))
theorem sg_of {z : Str} (h : (z.cps.toList.all fun c => decide (SgOk c)) = true) : ∀ c ∈ cl z, SgOk c := fun c hc => of_decide_eq_true (List.all_eq_true.mp h c hc)
end TG
namespace TG
open PySem L2 Gx
abbrev everyS : Str := " !\"#$&'()*+,-./0123456789:;<=>?@ABCDEFGHIJKLMNOPQRSTUVWXYZ[\\]^_`abcdefghijklmnopqrstuvwxyz{|}~"
theorem every_ok : ∀ c ∈ cl everyS, SgOk c := sg_of (by decide +kernel)
theorem abc_len : (cl "abcdefghij").length = 10 := by decide +kernel
theorem emp_len : (Str.ofString "").length = 0 := by decide +kernel
theorem every_len : (cl everyS).length = 94 := by decide +kernel
theorem cells_ok {l : List Str} (h : (l.all fun z => decide (z.length ≤ 10) && z.cps.toList.all fun c => decide (SgOk c)) = true) : ∀ z ∈ l, CellOk z := fun z hz => by
  have q := Bool.and_eq_true_iff.mp (List.all_eq_true.mp h z hz)
  exact ⟨of_decide_eq_true q.1, sg_of q.2⟩
/-- one of a written list -/
theorem pick {α : Type} {xs : List α} {i : Int} (h0 : 0 ≤ i) (h1 : i < xs.length) : ∃ x, x ∈ xs ∧ atI xs i = some x := by
  obtain ⟨n, rfl⟩ := Int.eq_ofNat_of_zero_le h0
  have hn : n < xs.length := by have : ((n : Nat) : Int) < xs.length := h1; omega
  exact ⟨xs[n], List.getElem_mem hn, atI_nat (List.getElem?_eq_getElem hn)⟩
theorem iteB {c A B : Prop} [Decidable c] (h1 : A) (h2 : B) : if c then A else B := ite2 (fun _ => h1) fun _ => h2
theorem len_cl (z : Str) : z.length = (cl z).length := by simp [Str.length, cl]
theorem box_new {H : Hp} {b l p : Addr} {o : HO} (x : BoxAt H b l) (n : H p = none) : BoxAt (upd H p o) b l := by
  obtain ⟨ns, st, h1, h2, h3⟩ := x
  exact ⟨ns, st, by rw [upd_ne (ne_of_none h1 n)]; exact h1, by rw [upd_ne (ne_of_none h2 n)]; exact h2, h3⟩
theorem new_ne {H : Hp} {b l p : Addr} (x : BoxAt H b l) (n : H p = none) : p ≠ b ∧ p ≠ l := by
  obtain ⟨ns, st, h1, h2, h3⟩ := x
  exact ⟨(ne_of_none h1 n).symm, (ne_of_none h2 n).symm⟩
theorem box_upd {H : Hp} {b l p : Addr} {o : HO} (x : BoxAt H b l) (h1 : p ≠ b) (h2 : p ≠ l) : BoxAt (upd H p o) b l := by
  obtain ⟨ns, st, g1, g2, g3⟩ := x
  exact ⟨ns, st, by rw [upd_ne h1.symm]; exact g1, by rw [upd_ne h2.symm]; exact g2, g3⟩
theorem kb_new {H : Hp} {b l p : Addr} {o : HO} (n : H p = none) : KB b l H (upd H p o) := fun c u e _ _ => by rw [upd_ne (ne_of_none e n)]; exact e
theorem kb_upd {H H' : Hp} {b l p : Addr} {o : HO} (x : KB b l H H') (n : H p = none) : KB b l H (upd H' p o) := fun c u e h1 h2 => by rw [upd_ne (ne_of_none e n)]; exact x c u e h1 h2
theorem atI_map {α β : Type} {f : α → β} {xs : List α} {i : Int} {x : α} (h : atI xs i = some x) : atI (xs.map f) i = some (f x) := by
  unfold atI at h ⊢
  rw [List.length_map]
  cases e : ixN xs.length i with
  | none => rw [e] at h; cases h
  | some j =>
    rw [e] at h
    have h' : xs[j]? = some x := h
    show (xs.map f)[j]? = some (f x)
    rw [List.getElem?_map, h']
    rfl
/-- a list of single signs at D -/
structure OnesAt (b l : Addr) (H : Hp) (D : Addr) (i : Nat) (H' : Hp) : Prop where
  box : BoxAt H' b l
  keep : KB b l H H'
  nD : H D = none
  db : D ≠ b
  dl : D ≠ l
  ones : ∃ cs : List Nat, cs.length = i ∧ (∀ c ∈ cs, SgOk c) ∧ H' D = some (.lst (sV (cs.map fun c => ⟨#[c]⟩)))
theorem OnesAt.start {b l : Addr} {H H1 : Hp} {D : Addr} (hB : BoxAt H1 b l) (x : KB b l H H1) (n : H1 D = none) (nb : BoxAt H b l) : OnesAt b l H D 0 (upd H1 D (.lst [])) := by
  obtain ⟨d1, d2⟩ := new_ne hB n
  have nD : H D = none := by
    cases e : H D with
    | none => rfl
    | some o => rw [x D o e d1 d2] at n; cases n
  exact ⟨box_new hB n, kb_upd x nD, nD, d1, d2, [], rfl, fun c h => by simp at h, upd_same⟩
theorem OnesAt.more {b l : Addr} {H H1 H2 : Hp} {D : Addr} {i c : Nat} (o : OnesAt b l H D i H1) (hc : SgOk c) (hB : BoxAt H2 b l) (x : KB b l H1 H2) :
    ∃ acc, H2 D = some (.lst acc) ∧ acc.length = i ∧ OnesAt b l H D (i + 1) (upd H2 D (.lst (acc ++ [.str ⟨#[c]⟩]))) := by
  obtain ⟨cs, h1, h2, h3⟩ := o.ones
  refine ⟨_, x D _ h3 o.db o.dl, by rw [List.length_map, List.length_map, h1], box_upd hB o.db o.dl, kb_upd (o.keep.trans x) o.nD, o.nD, o.db, o.dl, cs ++ [c], by rw [List.length_append, h1]; rfl, fun d hd => ?_, ?_⟩
  · rcases List.mem_append.mp hd with h | h
    · exact h2 d h
    · rw [List.mem_singleton.mp h]; exact hc
  · rw [upd_same]
    simp [sV]
theorem OnesAt.done {b l : Addr} {H H1 : Hp} {D : Addr} {i : Nat} (o : OnesAt b l H D i H1) : ∃ ys : List Str, H1 D = some (.lst (ys.map V.str)) ∧ ys.length = i ∧ (ys.map fun y => y.length).sum = i ∧ (i ≤ 10 → CellOk (Txt.join "" ys)) := by
  obtain ⟨cs, h1, h2, h3⟩ := o.ones
  refine ⟨_, h3, by rw [List.length_map, h1], ?_, fun hi => ?_⟩
  · rw [← h1]
    clear h1 h2 h3
    induction cs with
    | nil => rfl
    | cons c cs ih =>
      rw [List.map_cons, List.map_cons, List.sum_cons, ih, List.length_cons]
      show 1 + cs.length = cs.length + 1
      omega
  · have e : cl (Txt.join "" (cs.map fun c => (⟨#[c]⟩ : Str))) = cs := by
      rw [cl_join, List.map_map]
      clear h1 h2 h3
      induction cs with
      | nil => rfl
      | cons c cs ih =>
        rw [List.map_cons, List.flatten_cons, ih]
        rfl
    exact ⟨by rw [len_cl, e, h1]; exact hi, fun c hc => h2 c (by have hc : c ∈ cl _ := hc; rw [e] at hc; exact hc)⟩
abbrev oddL : List Str := ["-", "--1", "1-", "0x", " 1", "1 ", "-0", "007", " ", "   ", "1234567x", "12345678-", "-0000000 1"]
theorem odd_ok : ∀ z ∈ oddL, CellOk z := cells_ok (by decide +kernel)
section
variable {P : Program} {w : World} {K : PySem.W.Frag} {mg : Str → Option Value} {base : Heap} {cs : List (Addr × Addr)}
def spSign : Sp := fun vs H Q _ => ∃ (b l : Addr), vs = [.ref b] ∧ BoxAt H b l ∧ ∀ (c : Nat) (H' : Hp), SgOk c → BoxAt H' b l → KB b l H H' → Q (.str ⟨#[c]⟩) H'
theorem sc_sign : FnScope ["_law_box", "_law_every"] ["_law_box"] (defScope s_sign) := ⟨rfl, rfl, rfl, by decide +kernel, rfl, by decide +kernel, by decide +kernel⟩
theorem ok_sign {f g : Addr} {fd fdg : FuncData} (F : Fun K "_law_sign" "_law_sign" s_sign f fd)
    (G : FnOk P w K mg base CX0 1 g fdg ["_law_box", "_law_many"] spTake) (kp : PySem.W.keepIn K (.ref g) = true) (bd : Binds K fdg ["_law_box", "_law_many"] []) (mgg : mg "_law_take" = some (.ref g)) : FnOk P w K mg base CX0 2 f fd ["_law_box"] spSign := by
  refine F.ok sc_sign (fun vs H Q E h => ?_) (fun cdv A outer s H vs Q E hr h => ?_)
  · obtain ⟨b, l, rfl, _⟩ := h
    rfl
  · obtain ⟨b, l, rfl, hB, k⟩ := h
    have nd := sc_sign.nd
    refine ⟨_, pss_cons (ps_set (i := 1) nd rfl (.inl rfl) pe_str) (pss_one (ps_ret (pe_ix ix_str (pv 1) (pe_call G hr (by rfl) mgg kp bd .nil pass0 (pa_cons (pv 0) (pa_cons pe_int pa_nil))) (fun _ _ => rfl)))), ?_⟩
    refine ⟨_, rfl, _, rfl, b, l, 94, rfl, hB, by decide, by decide, fun r H1 r0 r1 hB1 x1 => ?_⟩
    obtain ⟨c, hc, e⟩ := pick (xs := cl everyS) r0 (by rw [every_len]; exact r1)
    exact ⟨everyS, r, c, rfl, rfl, line10 (by decide +kernel), e, k c H1 (every_ok c hc) hB1 x1⟩
def spCell : Sp := fun vs H Q _ => ∃ (b l : Addr) (sort : Int), vs = [.ref b, .int sort] ∧ BoxAt H b l ∧ ∀ (z : Str) (H' : Hp), CellOk z → BoxAt H' b l → KB b l H H' → Q (.str z) H'
theorem sc_cell : FnScope ["_law_box", "_law_sort", "_law_way", "_law_odd", "_law_many", "_law_k"] ["_law_box", "_law_sort"] (defScope s_cell) := ⟨rfl, rfl, rfl, by decide +kernel, rfl, by decide +kernel, by decide +kernel⟩
abbrev nmCell : List Str := ["_law_box", "_law_sort", "_law_way", "_law_odd", "_law_many", "_law_k"]
theorem ok_cell {f g g2 : Addr} {fd fdg fd2 : FuncData} (T : Txt mg) (F : Fun K "_law_cell" "_law_cell" s_cell f fd)
    (G : FnOk P w K mg base CX0 1 g fdg ["_law_box", "_law_many"] spTake) (kp : PySem.W.keepIn K (.ref g) = true) (bd : Binds K fdg ["_law_box", "_law_many"] []) (mgg : mg "_law_take" = some (.ref g))
    (G2 : FnOk P w K mg base CX0 2 g2 fd2 ["_law_box"] spSign) (kp2 : PySem.W.keepIn K (.ref g2) = true) (bd2 : Binds K fd2 ["_law_box"] []) (mg2 : mg "_law_sign" = some (.ref g2)) : FnOk P w K mg base CX0 3 f fd ["_law_box", "_law_sort"] spCell := by
  refine F.ok sc_cell (fun vs H Q E h => ?_) (fun cdv A outer s H vs Q E hr h => ?_)
  · obtain ⟨b, l, sort, rfl, _⟩ := h
    rfl
  · obtain ⟨b, l, sort, rfl, hB, k⟩ := h
    have nd := sc_cell.nd
    have hr1 : Room 1 _ := hr.mono (by decide)
    refine ⟨_, pss_cons (ps_set (i := 2) nd rfl (.inl rfl) (pe_call G hr1 (by rfl) mgg kp bd .nil pass0 (pa_cons (pv 0) (pa_cons pe_int pa_nil))))
      (pss_cons (ps_if (pt_cmpR op_eq (pv 2) pe_int (nomark _)) (pss_one (ps_ret pe_str)) pss_nil)
      (pss_cons (ps_if (PW.pt (pw_or (pt_cmpR op_eq (pv 2) pe_int (nomark _)) (pw_or1 (PW.pt (pw_and (pt_cmpR op_eq (pv 1) pe_int (nomark _)) (pw_and1 (pt_cmpR op_lt (pv 2) pe_int (nomark _)))))))) (pss_one (ps_ret (pe_op op_add_str (pe_ix ix_list (pe_lst (pa_cons pe_str (pa_cons pe_str pa_nil))) (pe_op op_fdivN (pe_call G hr1 (by rfl) mgg kp bd .nil pass0 (pa_cons (pv 0) (pa_cons pe_int pa_nil))) pe_int) (fun _ _ => rfl)) (pe_callTy call_str_int (by rfl) T.str (by decide +kernel) (pa_cons (pe_call G hr1 (by rfl) mgg kp bd .nil pass0 (pa_cons (pv 0) (pa_cons (pe_ix ix_list (pe_lst (pa_cons pe_int (pa_cons pe_int (pa_cons (pe_op op_pow pe_int pe_int) pa_nil)))) (pe_call G hr1 (by rfl) mgg kp bd .nil pass0 (pa_cons (pv 0) (pa_cons pe_int pa_nil))) (fun _ _ => rfl)) pa_nil))) pa_nil))))) pss_nil)
      (pss_cons (ps_if (pt_cmpR op_eq (pv 2) pe_int (nomark _)) (pss_cons (ps_set (i := 3) nd rfl (.inl rfl) (pe_lst (pa_cons pe_str (pa_cons pe_str (pa_cons pe_str (pa_cons pe_str (pa_cons pe_str (pa_cons pe_str (pa_cons pe_str (pa_cons pe_str (pa_cons pe_str (pa_cons pe_str (pa_cons pe_str (pa_cons pe_str (pa_cons pe_str pa_nil))))))))))))))) (pss_one (ps_ret (pe_ix ix_list (pv 3) (pe_call G hr1 (by rfl) mgg kp bd .nil pass0 (pa_cons (pv 0) (pa_cons pe_int pa_nil))) (fun _ _ => rfl))))) pss_nil)
      (pss_cons (ps_set (i := 4) nd rfl (.inl rfl) (pe_op op_add pe_int (pe_call G hr1 (by rfl) mgg kp bd .nil pass0 (pa_cons (pv 0) (pa_cons (pe_ix ix_list (pe_lst (pa_cons pe_int (pa_cons pe_int pa_nil))) (pe_call G hr1 (by rfl) mgg kp bd .nil pass0 (pa_cons (pv 0) (pa_cons pe_int pa_nil))) (fun _ _ => rfl)) pa_nil)))))
      (pss_cons (ps_if (pt_cmpR op_lt (pv 2) pe_int (nomark _)) (pss_one (ps_ret (pe_join pe_str (pe_lc (own := [("_law_k", 5)]) (g := gName 5) (tt := tYes) rfl nd (pi_range1 (by rfl) T.range (pa_cons (pv 4) pa_nil)) (blkOk_by (own := [("_law_k", 5)]) (N := nmCell) (sc := defScope s_cell) (by decide +kernel)) (fun _ _ _ _ _ => pg_name (i := 5) nd rfl (Or.inl rfl)) (fun _ _ _ _ _ => pts_nil) (fun s1 H1 C1 cl1 fp1 => pe_ix ix_str pe_str (pe_call G hr1 (by rfl) mgg kp bd .nil pass0 (pa_cons (pv 0) (pa_cons pe_int pa_nil))) (fun _ _ => rfl)))))) pss_nil)
      (pss_one (ps_ret (pe_join pe_str (pe_lc (own := [("_law_k", 5)]) (g := gName 5) (tt := tYes) rfl nd (pi_range1 (by rfl) T.range (pa_cons (pv 4) pa_nil)) (blkOk_by (own := [("_law_k", 5)]) (N := nmCell) (sc := defScope s_cell) (by decide +kernel)) (fun _ _ _ _ _ => pg_name (i := 5) nd rfl (Or.inl rfl)) (fun _ _ _ _ _ => pts_nil) (fun s1 H1 C1 cl1 fp1 => pe_call G2 hr (by rfl) mg2 kp2 bd2 .nil pass0 (pa_cons (pv 0) pa_nil))))))))))), ?_⟩
    have szl : (1000 : Nat) < sizeLine := by decide
    refine ⟨_, rfl, b, l, 9, rfl, hB, by decide, by decide, fun way H1 w0 w1 hB1 x1 => ⟨_, rfl, rfl, _, rfl, iteB ?_ ?_⟩⟩
    · exact k _ H1 ⟨by decide +kernel, sg_of (by decide +kernel)⟩ hB1 x1
    refine ⟨_, rfl, rfl, _, rfl, iteB (iteT ?body) ⟨_, rfl, rfl, _, rfl, iteB ⟨_, rfl, _, _, rfl, rfl, _, rfl, iteB ?body ?rest⟩ (iteF ?rest)⟩⟩
    case body =>
      refine ⟨line10 (by decide), fun p np => ⟨_, rfl, b, l, 3, rfl, box_new hB1 np, by decide, by decide, fun r H2 r0 r1 hB2 x2 => ⟨r, 2, rfl, rfl, ⟨by decide, by decide⟩, ?_⟩⟩⟩
      have y2 := (x1.trans (kb_new np)).trans x2
      have e2 : r.fdiv 2 = r / 2 := Int.fdiv_eq_ediv_of_nonneg r (by decide)
      obtain ⟨v, hv, ev⟩ := pick (xs := [(⟨#[]⟩ : Str), ⟨#[45]⟩]) (i := r.fdiv 2) (by omega) (by show r.fdiv 2 < 2; omega)
      obtain ⟨nb, nl⟩ := new_ne hB1 np
      have l1 : ([("" : Str), "-"] : List Str) = [⟨#[]⟩, ⟨#[45]⟩] := by decide +kernel
      have hp2 : H2 p = some (.lst (sV [("" : Str), "-"])) := x2 p _ upd_same nb nl
      refine ⟨p, _, _, .str v, rfl, rfl, SqL.of hp2, by rw [l1]; exact atI_map ev, ?_⟩
      refine ⟨_, rfl, 10, 9, rfl, rfl, ⟨by decide, by decide, by decide⟩, line10 (by decide), fun p2 np2 => ⟨_, rfl, b, l, 3, rfl, box_new hB2 np2, by decide, by decide, fun r2 H4 s0 s1 hB4 x4 => ?_⟩⟩
      obtain ⟨nb2, nl2⟩ := new_ne hB2 np2
      have y4 := (y2.trans (kb_new np2)).trans x4
      have hp4 := x4 p2 _ upd_same nb2 nl2
      obtain ⟨m, hm, em⟩ := pick (xs := [(10 : Int), 1000, 1000000000]) (i := r2) s0 s1
      have hm2 : 0 < m ∧ m ≤ 1000000000 := by
        simp only [List.mem_cons, List.not_mem_nil, or_false] at hm
        omega
      refine ⟨p2, _, _, .int m, rfl, rfl, SqL.of hp4, atI_map (f := V.int) em, b, l, m, rfl, hB4, hm2.1, by omega, fun n H5 n0 n1 hB5 x5 => ⟨n, rfl, ?_, v, _, rfl, rfl, ?_, ?_⟩⟩
      · by_cases hz : n.natAbs = 0
        · rw [hz]; decide
        · refine Nat.lt_of_lt_of_le ((Nat.log2_lt hz).mpr (show n.natAbs < 2 ^ 30 by omega)) (by decide)
      · have h9 := (num_ok n0 (by omega)).1
        have hv1 : v.length ≤ 1 := by
          simp only [List.mem_cons, List.not_mem_nil, or_false] at hv
          rcases hv with rfl | rfl <;> decide
        omega
      · obtain ⟨h9, hd9⟩ := num_ok n0 (by omega)
        have hv1 : v.length ≤ 1 ∧ ∀ c ∈ cl v, SgOk c := by
          simp only [List.mem_cons, List.not_mem_nil, or_false] at hv
          rcases hv with rfl | rfl <;> exact ⟨by decide, sg_of (by decide)⟩
        refine k _ H5 ⟨?_, fun c hc => ?_⟩ hB5 (y4.trans x5)
        · rw [len_cl, cl_app, List.length_append, ← len_cl, ← len_cl]; omega
        · have hc : c ∈ cl (v ++ _) := hc
          rw [cl_app] at hc
          rcases List.mem_append.mp hc with h | h
          · exact hv1.2 c h
          · have := hd9 c h
            unfold SgOk
            omega
    case rest =>
    refine ⟨_, rfl, rfl, _, rfl, iteB ?_ ?_⟩
    · refine ⟨line10 (by decide), fun p np => ⟨_, rfl, _, rfl, b, l, 13, rfl, box_new hB1 np, by decide, by decide, fun r H2 r0 r1 hB2 x2 => ?_⟩⟩
      obtain ⟨nb, nl⟩ := new_ne hB1 np
      have hp2 : H2 p = some (.lst (sV oddL)) := x2 p _ upd_same nb nl
      obtain ⟨v, hv, ev⟩ := pick (xs := oddL) (i := r) r0 r1
      exact ⟨p, _, _, .str v, rfl, rfl, SqL.of hp2, atI_map ev, k v H2 (odd_ok v hv) hB2 ((x1.trans (kb_new np)).trans x2)⟩
    refine ⟨_, rfl, line10 (by decide), fun p np => ⟨_, rfl, b, l, 2, rfl, box_new hB1 np, by decide, by decide, fun r H2 r0 r1 hB2 x2 => ?_⟩⟩
    obtain ⟨nb, nl⟩ := new_ne hB1 np
    have hp2 := x2 p _ upd_same nb nl
    have y2 := (x1.trans (kb_new np)).trans x2
    obtain ⟨m, hm, em⟩ := pick (xs := [(3 : Int), 10]) (i := r) r0 r1
    have hm2 : 0 < m ∧ m ≤ 10 := by
      simp only [List.mem_cons, List.not_mem_nil, or_false] at hm
      omega
    refine ⟨p, _, _, .int m, rfl, rfl, SqL.of hp2, atI_map (f := V.int) em, b, l, m, rfl, hB2, hm2.1, by omega, fun n H3 n0 n1 hB3 x3 => ⟨1, n, rfl, rfl, ?_⟩⟩
    have y3 := y2.trans x3
    refine ⟨_, rfl, _, _, rfl, rfl, _, rfl, iteB ?_ ?_⟩
    · refine ⟨⟨_, rfl⟩, _, rfl, 1 + n, rfl, by omega, by omega, fun D nD => lc_range (n := (1 + n).toNat) (fun i H' => OnesAt b l H D i H') ?_ ?_ ?_⟩
      · exact OnesAt.start hB3 y3 nD hB
      · rintro i H4 hi o
        refine ⟨rfl, _, rfl, b, l, 10, rfl, o.box, by decide, by decide, fun r4 H5 a0 a1 hB5 x5 => ?_⟩
        obtain ⟨c, hc, ec⟩ := pick (xs := cl "abcdefghij") (i := r4) a0 (by rw [abc_len]; exact a1)
        obtain ⟨acc, hacc, hl, o2⟩ := o.more (c := c) (sg_of (z := "abcdefghij") (by decide +kernel) c hc) hB5 x5
        exact ⟨_, r4, c, rfl, rfl, line10 (by decide +kernel), ec, acc, hacc, by omega, o2⟩
      · rintro H4 o
        obtain ⟨ys, hD, h1, h2, h3⟩ := o.done
        exact ⟨_, D, ys, rfl, rfl, .inl (SqL.of hD), by rw [h2, emp_len]; omega, k _ H4 (h3 (by omega)) o.box o.keep⟩
    · refine ⟨⟨_, rfl⟩, _, rfl, 1 + n, rfl, by omega, by omega, fun D nD => lc_range (n := (1 + n).toNat) (fun i H' => OnesAt b l H D i H') ?_ ?_ ?_⟩
      · exact OnesAt.start hB3 y3 nD hB
      · rintro i H4 hi o
        refine ⟨rfl, _, rfl, b, l, rfl, o.box, fun c H5 hc hB5 x5 => ?_⟩
        obtain ⟨acc, hacc, hl, o2⟩ := o.more (c := c) hc hB5 x5
        exact ⟨acc, hacc, by omega, o2⟩
      · rintro H4 o
        obtain ⟨ys, hD, h1, h2, h3⟩ := o.done
        exact ⟨_, D, ys, rfl, rfl, .inl (SqL.of hD), by rw [h2, emp_len]; omega, k _ H4 (h3 (by omega)) o.box o.keep⟩
end
end TG
namespace TG
open PySem L2 Gx
theorem new_old {b l p : Addr} {H H1 : Hp} (x : KB b l H H1) (hB : BoxAt H1 b l) (n : H1 p = none) : H p = none := by
  obtain ⟨d1, d2⟩ := new_ne hB n
  cases e : H p with
  | none => rfl
  | some o => rw [x p o e d1 d2] at n; cases n
/-- a list of cells at D -/
structure StrsAt (b l : Addr) (H : Hp) (D : Addr) (i : Nat) (H' : Hp) : Prop where
  box : BoxAt H' b l
  keep : KB b l H H'
  nD : H D = none
  db : D ≠ b
  dl : D ≠ l
  zsat : ∃ zs : List Str, zs.length = i ∧ (∀ z ∈ zs, CellOk z) ∧ H' D = some (.lst (sV zs))
theorem StrsAt.start {b l : Addr} {H H1 : Hp} {D : Addr} (hB : BoxAt H1 b l) (x : KB b l H H1) (n : H1 D = none) : StrsAt b l H D 0 (upd H1 D (.lst [])) := by
  obtain ⟨d1, d2⟩ := new_ne hB n
  have nD := new_old x hB n
  exact ⟨box_new hB n, kb_upd x nD, nD, d1, d2, [], rfl, fun c h => by simp at h, upd_same⟩
theorem StrsAt.more {b l : Addr} {H H1 H2 : Hp} {D : Addr} {i : Nat} {z : Str} (o : StrsAt b l H D i H1) (hc : CellOk z) (hB : BoxAt H2 b l) (x : KB b l H1 H2) :
    ∃ acc, H2 D = some (.lst acc) ∧ acc.length = i ∧ StrsAt b l H D (i + 1) (upd H2 D (.lst (acc ++ [.str z]))) := by
  obtain ⟨zs, h1, h2, h3⟩ := o.zsat
  refine ⟨_, x D _ h3 o.db o.dl, by rw [List.length_map, h1], box_upd hB o.db o.dl, kb_upd (o.keep.trans x) o.nD, o.nD, o.db, o.dl, zs ++ [z], by rw [List.length_append, h1]; rfl, fun d hd => ?_, ?_⟩
  · rcases List.mem_append.mp hd with h | h
    · exact h2 d h
    · rw [List.mem_singleton.mp h]; exact hc
  · rw [upd_same]
    simp [sV]
/-- a list of numbers at D, below m -/
structure IntsAt (b l : Addr) (H : Hp) (D : Addr) (i : Nat) (H' : Hp) : Prop where
  box : BoxAt H' b l
  keep : KB b l H H'
  nD : H D = none
  db : D ≠ b
  dl : D ≠ l
  isat : ∃ zs : List Int, zs.length = i ∧ H' D = some (.lst (zs.map V.int))
theorem IntsAt.start {b l : Addr} {H H1 : Hp} {D : Addr} (hB : BoxAt H1 b l) (x : KB b l H H1) (n : H1 D = none) : IntsAt b l H D 0 (upd H1 D (.lst [])) := by
  obtain ⟨d1, d2⟩ := new_ne hB n
  have nD := new_old x hB n
  exact ⟨box_new hB n, kb_upd x nD, nD, d1, d2, [], rfl, upd_same⟩
theorem IntsAt.more {b l : Addr} {H H1 H2 : Hp} {D : Addr} {i : Nat} {z : Int} (o : IntsAt b l H D i H1) (hB : BoxAt H2 b l) (x : KB b l H1 H2) :
    ∃ acc, H2 D = some (.lst acc) ∧ acc.length = i ∧ IntsAt b l H D (i + 1) (upd H2 D (.lst (acc ++ [.int z]))) := by
  obtain ⟨zs, h1, h3⟩ := o.isat
  refine ⟨_, x D _ h3 o.db o.dl, by rw [List.length_map, h1], box_upd hB o.db o.dl, kb_upd (o.keep.trans x) o.nD, o.nD, o.db, o.dl, zs ++ [z], by rw [List.length_append, h1]; rfl, ?_⟩
  rw [upd_same]
  simp
theorem ixm1 {n : Nat} : ixN (n + 1) (-1) = some n := by
  unfold ixN
  rw [if_neg (by decide), if_pos (by omega)]
  congr 1
  omega
theorem atm1 {α : Type} {xs : List α} {n : Nat} {v : α} (hl : xs.length = n + 1) (h : xs[n]? = some v) : atI xs (-1) = some v := by
  unfold atI
  rw [hl, ixm1]
  exact h
/-- rows' tuples -/
def RowsP (H : Hp) (as : List Addr) : Prop := ∀ p ∈ as, ∃ r, H p = some (.tup (sV r)) ∧ RowOk r
theorem RowsP.keep {H H' : Hp} {as : List Addr} (x : RowsP H as) (k : ∀ p xs, H p = some (.tup xs) → H' p = some (.tup xs)) : RowsP H' as := fun p hp => by
  obtain ⟨r, h1, h2⟩ := x p hp
  exact ⟨r, k _ _ h1, h2⟩
theorem RowsP.page {H : Hp} : ∀ {as : List Addr}, RowsP H as → ∃ rows : List (List Str), as.length = rows.length ∧ (∀ (i : Nat) (p : Addr) (r : List Str), as[i]? = some p → rows[i]? = some r → H p = some (.tup (sV r))) ∧ ∀ r ∈ rows, RowOk r
  | [], _ => ⟨[], rfl, fun i p r h => by simp at h, fun r h => by simp at h⟩
  | a :: as, x => by
    obtain ⟨rows, h1, h2, h3⟩ := RowsP.page (as := as) fun p hp => x p (List.mem_cons_of_mem _ hp)
    obtain ⟨r, g1, g2⟩ := x a List.mem_cons_self
    refine ⟨r :: rows, by rw [List.length_cons, List.length_cons, h1], fun i p q e1 e2 => ?_, fun q hq => ?_⟩
    · cases i with
      | zero => cases e1; cases e2; exact g1
      | succ i => exact h2 i p q (by simpa using e1) (by simpa using e2)
    · rcases List.mem_cons.mp hq with z | z
      · rw [z]; exact g2
      · exact h3 q z
theorem kb_tup {b l : Addr} {H H' : Hp} (x : KB b l H H') (hB : BoxAt H b l) : ∀ p xs, H p = some (.tup xs) → H' p = some (.tup xs) := fun p xs h => by
  obtain ⟨ns, st, h1, h2, _⟩ := hB
  exact x p _ h (ne_of h h1 fun z => by cases z) (ne_of h h2 fun z => by cases z)
section
variable {P : Program} {w : World} {K : PySem.W.Frag} {mg : Str → Option Value} {base : Heap} {cs : List (Addr × Addr)}
def spRowD : Sp := fun vs H Q _ => ∃ (b l sr : Addr) (ss : List Int) (m : Int), vs = [.ref b, .ref sr, .int m] ∧ BoxAt H b l ∧ H sr = some (.lst (ss.map V.int)) ∧ ss.length = 6 ∧ sr ≠ b ∧ sr ≠ l ∧ 1 ≤ m ∧ m ≤ 6 ∧
  ∀ (p : Addr) (r : List Str) (H' : Hp), BoxAt H' b l → KB b l H H' → H p = none → H' p = some (.tup (sV r)) → RowOk r → Q (.ref p) H'
abbrev nmRow : List Str := ["_law_box", "_law_sorts", "_law_many", "_law_k"]
theorem sc_lrow : FnScope nmRow ["_law_box", "_law_sorts", "_law_many"] (defScope s_row) := ⟨rfl, rfl, rfl, by decide +kernel, rfl, by decide +kernel, by decide +kernel⟩
theorem ok_lrow {f g : Addr} {fd fdg : FuncData} (T : Txt mg) (F : Fun K "_law_row" "_law_row" s_row f fd)
    (G : FnOk P w K mg base CX0 3 g fdg ["_law_box", "_law_sort"] spCell) (kp : PySem.W.keepIn K (.ref g) = true) (bd : Binds K fdg ["_law_box", "_law_sort"] []) (mgg : mg "_law_cell" = some (.ref g)) : FnOk P w K mg base CX0 4 f fd ["_law_box", "_law_sorts", "_law_many"] spRowD := by
  refine F.ok sc_lrow (fun vs H Q E h => ?_) (fun cdv A outer s H vs Q E hr h => ?_)
  · obtain ⟨b, l, sr, ss, m, rfl, _⟩ := h
    rfl
  · obtain ⟨b, l, sr, ss, m, rfl, hB, hs, h6, sb, sl, m1, m6, k⟩ := h
    have nd := sc_lrow.nd
    have szl : (1000 : Nat) < sizeLine := by decide
    refine ⟨_, pss_one (ps_ret (pe_callTy call_tuple_of (by rfl) T.tuple (by decide +kernel) (pa_cons (pe_lc (own := [("_law_k", 3)]) (g := gName 3) (tt := tYes) rfl nd (pi_range1 (by rfl) T.range (pa_cons (pv 2) pa_nil)) (blkOk_by (own := [("_law_k", 3)]) (N := nmRow) (sc := defScope s_row) (by decide +kernel))
          (fun _ _ _ _ _ => pg_name (i := 3) nd rfl (Or.inl rfl)) (fun _ _ _ _ _ => pts_nil) (fun s1 H1 C1 cl1 fp1 => pe_call G hr (by rfl) mgg kp bd .nil pass0 (pa_cons (pv 0) (pa_cons (pe_ix (r := rIxL K) ix_list (pv 1) (pv 3) (fun _ _ => rfl)) pa_nil)))) pa_nil))), ?_⟩
    refine ⟨_, rfl, m, rfl, by omega, by omega, fun D nD => lc_range (n := m.toNat) (fun i H' => StrsAt b l H D i H') (StrsAt.start hB KB.refl nD) ?_ ?_⟩
    · rintro i H1 hi o
      obtain ⟨sv, hsv⟩ := getP (xs := ss) (i := i) (by omega)
      have hs1 := o.keep sr _ hs sb sl
      refine ⟨rfl, _, rfl, _, rfl, _, rfl, sr, _, _, .int sv, rfl, rfl, SqL.of hs1, by rw [Int.zero_add]; exact atI_nat (by rw [List.getElem?_map, hsv]; rfl), b, l, sv, rfl, o.box, fun z H2 hz hB2 x2 => ?_⟩
      obtain ⟨acc, hacc, hl, o2⟩ := o.more hz hB2 x2
      exact ⟨acc, hacc, by omega, o2⟩
    · rintro H1 o
      obtain ⟨zs, h1, h2, h3⟩ := o.zsat
      refine ⟨D, _, rfl, .inl ⟨SqL.of h3, fun p np => k p zs _ (box_new o.box np) (o.keep.trans (kb_new np)) (new_old o.keep o.box np) upd_same ⟨by omega, by omega, h2⟩⟩⟩
def spPageD : Sp := fun vs H Q _ => ∃ (b l : Addr) (m : Int), vs = [.ref b, .int m] ∧ BoxAt H b l ∧ 1 ≤ m ∧ m ≤ 30 ∧
  ∀ (p : Addr) (as : List Addr) (rows : List (List Str)) (H' : Hp), BoxAt H' b l → KB b l H H' → H p = none → p ≠ b → p ≠ l → H' p = some (.lst (as.map V.ref)) → as.length = rows.length → (∀ (i : Nat) (q : Addr) (r : List Str), as[i]? = some q → rows[i]? = some r → H' q = some (.tup (sV r))) → PgOk rows → Q (.ref p) H'
abbrev nmPage : List Str := ["_law_box", "_law_most", "_law_sorts", "_law_many", "_law_rows", "_law_turn", "_law_way", "_law_k"]
theorem sc_lpage : FnScope nmPage ["_law_box", "_law_most"] (defScope s_page) := ⟨rfl, rfl, rfl, by decide +kernel, rfl, by decide +kernel, by decide +kernel⟩
theorem ok_lpage {f g g2 : Addr} {fd fdg fd2 : FuncData} (T : Txt mg) (F : Fun K "_law_page" "_law_page" s_page f fd)
    (G : FnOk P w K mg base CX0 1 g fdg ["_law_box", "_law_many"] spTake) (kp : PySem.W.keepIn K (.ref g) = true) (bd : Binds K fdg ["_law_box", "_law_many"] []) (mgg : mg "_law_take" = some (.ref g))
    (G2 : FnOk P w K mg base CX0 4 g2 fd2 ["_law_box", "_law_sorts", "_law_many"] spRowD) (kp2 : PySem.W.keepIn K (.ref g2) = true) (bd2 : Binds K fd2 ["_law_box", "_law_sorts", "_law_many"] []) (mg2 : mg "_law_row" = some (.ref g2)) : FnOk P w K mg base CX0 5 f fd ["_law_box", "_law_most"] spPageD := by
  refine F.ok sc_lpage (fun vs H Q E h => ?_) (fun cdv A outer s H vs Q E hr h => ?_)
  · obtain ⟨b, l, m, rfl, _⟩ := h
    rfl
  · obtain ⟨b, l, m, rfl, hB, m1, m30, k⟩ := h
    have nd := sc_lpage.nd
    have szl : (1000 : Nat) < sizeLine := by decide
    have hr1 : Room 1 _ := hr.mono (by decide)
    refine ⟨_, pss_cons (ps_setLc (i := 2) (own := [("_law_k", 7)]) (g := gName 7) rfl nd rfl rfl (sw_true rfl rfl rfl (by decide +kernel)) (pi_range1 (by rfl) T.range (pa_cons pe_int pa_nil)) (blkOk_by (own := [("_law_k", 7)]) (N := nmPage) (sc := defScope s_page) (by decide +kernel))
          (fun _ _ _ _ _ => pg_name (i := 7) nd rfl (Or.inl rfl)) (fun _ _ _ _ _ => pts_nil) (fun s1 H1 C1 cl1 fp1 => pe_call G hr1 (by rfl) mgg kp bd .nil pass0 (pa_cons (pv 0) (pa_cons pe_int pa_nil))))
      (pss_cons (ps_par (i := 3) (j := 4) rfl nd rfl rfl (by decide) rfl rfl (pa_cons (pe_op op_add pe_int (pe_call G hr1 (by rfl) mgg kp bd .nil pass0 (pa_cons (pv 0) (pa_cons pe_int pa_nil)))) (pa_cons (pe_lst pa_nil) pa_nil)) (by rfl))
      (pss_cons (ps_for PassesOwn.never rfl (pi_range1 (by rfl) T.range (pa_cons (pe_op op_add pe_int (pe_call G hr1 (by rfl) mgg kp bd .nil pass0 (pa_cons (pv 0) (pa_cons (pv 1) pa_nil)))) pa_nil)) (pg_name (i := 5) nd rfl (.inl rfl))
        (pss_cons (ps_set (i := 6) nd rfl (.inl rfl) (pe_call G hr1 (by rfl) mgg kp bd .nil pass0 (pa_cons (pv 0) (pa_cons pe_int pa_nil))))
        (pss_cons (ps_set (i := 3) nd rfl (.inl rfl) (pe_ix ix_list (pe_lst (pa_cons (pe_op op_add pe_int (pe_call G hr1 (by rfl) mgg kp bd .nil pass0 (pa_cons (pv 0) (pa_cons pe_int pa_nil)))) (pa_cons (pe_callB (call_max2 rfl) (by rfl) T.max (by decide +kernel) (pa_cons pe_int (pa_cons (pe_op op_sub (pv 3) pe_int) pa_nil)))
            (pa_cons (pe_callB (call_min2 rfl) (by rfl) T.min (by decide +kernel) (pa_cons pe_int (pa_cons (pe_op op_add (pv 3) pe_int) pa_nil))) (pa_cons (pv 3) pa_nil))))) (pe_callB (call_min2 rfl) (by rfl) T.min (by decide +kernel) (pa_cons (pv 6) (pa_cons pe_int pa_nil))) (fun _ _ => rfl)))
        (pss_cons (ps_expr (pe_bm PySem.F.plainAttrs_list PySem.F.slot_list_append PySem.F.type_list_append mt_append (pv 4) (pa_cons (pe_call G2 hr (by rfl) mg2 kp2 bd2 .nil pass0 (pa_cons (pv 0) (pa_cons (pv 2) (pa_cons (pv 3) pa_nil)))) pa_nil)))
        (pss_one (ps_if (pt_cmpR op_eq (pv 6) pe_int (nomark _))
          (pss_cons (ps_asg (pe_ix ix_list (pv 4) (pe_call G hr1 (by rfl) mgg kp bd .nil pass0 (pa_cons (pv 0) (pa_cons (pe_callB call_len_seq (by rfl) T.len PySem.boot_len (pa_cons (pv 4) pa_nil)) pa_nil))) (fun _ _ => rfl)) (pg_sub (pv 4) (pe_un un_neg pe_int) set_list))
          (pss_one (ps_set (i := 3) nd rfl (.inl rfl) (pe_callB call_len_seq (by rfl) T.len PySem.boot_len (pa_cons (pe_ix ix_list (pv 4) (pe_un un_neg pe_int) (fun _ _ => rfl)) pa_nil))))) pss_nil))))))
      (pss_one (ps_ret (pv 4))))), ?_⟩
    refine ⟨6, rfl, by decide, by decide, fun sr nsr => lc_range (n := 6) (fun i H' => IntsAt b l H sr i H') (IntsAt.start hB KB.refl nsr) ?_ ?_⟩
    · rintro i H1 hi o
      refine ⟨rfl, _, rfl, b, l, 2, rfl, o.box, by decide, by decide, fun r H2 r0 r1 hB2 x2 => ?_⟩
      obtain ⟨acc, hacc, hl, o2⟩ := o.more (z := r) hB2 x2
      exact ⟨acc, hacc, by omega, o2⟩
    rintro H1 ⟨hB1, x1, nsr, sb, sl, ss, h6, hs1⟩
    refine ⟨_, rfl, b, l, 6, rfl, hB1, by decide, by decide, fun m0 H2 a0 a1 hB2 x2 => ⟨1, m0, rfl, rfl, small0, fun lr nlr => ⟨_, _, rfl, ?_⟩⟩⟩
    have hs2 := x2 sr _ hs1 sb sl
    have y2 := x1.trans x2
    obtain ⟨lb, ll⟩ := new_ne hB2 nlr
    have lrs : lr ≠ sr := fun z => by rw [z, hs2] at nlr; cases nlr
    have nlr0 := new_old y2 hB2 nlr
    refine ⟨_, rfl, _, rfl, b, l, m, rfl, box_new hB2 nlr, by omega, by omega, fun tt H4 t0 t1 hB4 x4 => ⟨1, tt, rfl, rfl, 1 + tt, rfl, by omega, by omega, ?_⟩⟩
    have hs4 : H4 sr = some (.lst (ss.map V.int)) := x4 sr _ (by rw [upd_ne lrs.symm]; exact hs2) sb sl
    have y4 := (y2.trans (kb_new nlr)).trans x4
    have hl4 : H4 lr = some (.lst []) := x4 lr _ upd_same lb ll
    refine for_range (n := (1 + tt).toNat) (fun i σ H' => ∃ (mm : Int) (as : List Addr) (c5 c6 : Option V), σ = [some (.ref b), some (.int m), some (.ref sr), some (.int mm), some (.ref lr), c5, c6, none] ∧ 1 ≤ mm ∧ mm ≤ 6 ∧ BoxAt H' b l ∧ KB b l H H' ∧ H' sr = some (.lst (ss.map V.int)) ∧ H' lr = some (.lst (as.map V.ref)) ∧ as.length = i ∧ RowsP H' as)
      ⟨1 + m0, [], none, none, rfl, by omega, by omega, hB4, y4, hs4, hl4, rfl, fun p h => by simp at h⟩ ?_ ?_
    · rintro i σ H5 hi ⟨mm, as, c5, c6, rfl, mm1, mm6, hB5, y5, hs5, hl5, hlen, hR5⟩
      refine ⟨_, rfl, b, l, 8, rfl, hB5, by decide, by decide, fun way H6 w0 w1 hB6 x6 => ?_⟩
      refine ⟨_, rfl, b, l, 6, rfl, hB6, by decide, by decide, fun n6 H7 n0 n1 hB7 x7 => ⟨1, n6, rfl, rfl, _, rfl, mm, 1, rfl, rfl, 1, mm - 1, rfl, _, rfl, mm, 1, rfl, rfl, 6, mm + 1, rfl, _, rfl, line10 (by show 4 ≤ 1000; decide), fun q nq => ?_⟩⟩
      obtain ⟨mv, hmv, emv⟩ := pick (xs := [1 + n6, (if mm - 1 > 1 then mm - 1 else 1), (if mm + 1 < 6 then mm + 1 else 6), mm]) (i := if 3 < way then 3 else way) (by split <;> omega) (by show _ < (4 : Int); split <;> omega)
      have hmv2 : 1 ≤ mv ∧ mv ≤ 6 := by
        simp only [List.mem_cons, List.not_mem_nil, or_false] at hmv
        rcases hmv with h | h | h | h
        · omega
        · split at h <;> omega
        · split at h <;> omega
        · omega
      refine ⟨_, rfl, way, 3, rfl, q, _, _, .int mv, rfl, rfl, SqL.of upd_same, atI_map (f := V.int) emv, ?_⟩
      have y7 : KB b l H5 (upd H7 q (.lst (List.map V.int [1 + n6, (if mm - 1 > 1 then mm - 1 else 1), (if mm + 1 < 6 then mm + 1 else 6), mm]))) := (x6.trans x7).trans (kb_new nq)
      have hB8 := box_new (o := .lst (List.map V.int [1 + n6, (if mm - 1 > 1 then mm - 1 else 1), (if mm + 1 < 6 then mm + 1 else 6), mm])) hB7 nq
      have hl8 := y7 lr _ hl5 lb ll
      have hs8 := y7 sr _ hs5 sb sl
      refine ⟨_, rfl, .inl ⟨rfl, _, SqL.of hl8⟩, _, rfl, _, rfl, _, rfl, b, l, sr, ss, mv, rfl, hB8, hs8, h6, sb, sl, hmv2.1, hmv2.2, fun p r H9 hB9 x9 np hp hro => ?_⟩
      have hl9 := x9 lr _ hl8 lb ll
      have hs9 := x9 sr _ hs8 sb sl
      have plr : p ≠ lr := fun z => by rw [z, hl9] at hp; cases hp
      refine ⟨lr, _, .ref p, rfl, rfl, hl9, by rw [List.length_map]; omega, ?_⟩
      have el : as.map V.ref ++ [V.ref p] = (as ++ [p]).map V.ref := by simp
      rw [el]
      have y9 := kb_upd (o := .lst ((as ++ [p]).map V.ref)) (y5.trans (y7.trans x9)) nlr0
      have hB10 := box_upd (o := .lst ((as ++ [p]).map V.ref)) hB9 lb ll
      have hl10 : (upd H9 lr (.lst ((as ++ [p]).map V.ref))) lr = some (.lst ((as ++ [p]).map V.ref)) := upd_same
      have hs10 : (upd H9 lr (.lst ((as ++ [p]).map V.ref))) sr = some (.lst (ss.map V.int)) := by rw [upd_ne lrs.symm]; exact hs9
      have hR10 : RowsP (upd H9 lr (.lst ((as ++ [p]).map V.ref))) (as ++ [p]) := fun u hu => by
        rcases List.mem_append.mp hu with h | h
        · obtain ⟨r2, e1, e2⟩ := hR5 u h
          have e3 := kb_tup (y7.trans x9) hB5 u _ e1
          exact ⟨r2, by rw [upd_ne (fun z => by rw [z, hl9] at e3; cases e3)]; exact e3, e2⟩
        · rw [List.mem_singleton.mp h]
          exact ⟨r, by rw [upd_ne plr]; exact hp, hro⟩
      have hlen2 : (as ++ [p]).length = i + 1 := by rw [List.length_append, hlen]; rfl
      generalize (upd H9 lr (.lst ((as ++ [p]).map V.ref))) = H10 at y9 hB10 hl10 hs10 hR10 ⊢
      generalize as ++ [p] = as2 at hl10 hR10 hlen2 ⊢
      refine ⟨_, rfl, rfl, _, rfl, iteB ?_ ?_⟩
      · have ln : ((as2.map V.ref).length : Int) = ((i + 1 : Nat) : Int) := by rw [List.length_map, hlen2]
        refine ⟨_, rfl, _, rfl, _, rfl, lr, _, rfl, .inl (SqL.of hl10), b, l, _, rfl, hB10, by omega, by omega, fun j H11 j0 j1 hB11 x11 => ?_⟩
        have hl11 := x11 lr _ hl10 lb ll
        obtain ⟨u, hu, eu⟩ := pick (xs := as2) (i := j) j0 (by rw [hlen2]; omega)
        obtain ⟨r2, e1, e2⟩ := hR10 u hu
        have e3 := kb_tup x11 hB10 u _ e1
        have ulr : u ≠ lr := fun z => by rw [z, hl11] at e3; cases e3
        have ix : ixN (as2.map V.ref).length (-1) = some i := by rw [List.length_map, hlen2]; exact ixm1
        refine ⟨lr, _, j, .ref u, rfl, rfl, SqL.of hl11, atI_map eu, _, rfl, 1, rfl, lr, _, -1, i, rfl, rfl, hl11, ix, ?_⟩
        have es : (as2.map V.ref).set i (V.ref u) = (as2.set i u).map V.ref := by rw [List.map_set]
        rw [es]
        have gu : (as2.set i u)[i]? = some u := List.getElem?_set_self (by omega)
        have hs11 := x11 sr _ hs10 sb sl
        refine ⟨_, rfl, 1, rfl, lr, _, -1, .ref u, rfl, rfl, SqL.of upd_same, atm1 (n := i) (by rw [List.length_map, List.length_set, hlen2]) (by rw [List.getElem?_map, gu]; rfl), u, _, rfl, .inr (SqT.of (by rw [upd_ne ulr]; exact e3)), ?_⟩
        have l1 := e2.pos
        have l2 := e2.len
        have lr2 : (sV r2).length = r2.length := List.length_map ..
        refine ⟨_, as2.set i u, _, _, rfl, by omega, by omega, box_upd hB11 lb ll, kb_upd (y9.trans x11) nlr0, by rw [upd_ne lrs.symm]; exact hs11, upd_same, by rw [List.length_set, hlen2], fun v hv => ?_⟩
        rcases List.mem_or_eq_of_mem_set hv with h | h
        · obtain ⟨r3, f1, f2⟩ := hR10 v h
          have f3 := kb_tup x11 hB10 v _ f1
          exact ⟨r3, by rw [upd_ne (fun z => by rw [z, hl11] at f3; cases f3)]; exact f3, f2⟩
        · rw [h]
          exact ⟨r2, by rw [upd_ne ulr]; exact e3, e2⟩
      · exact ⟨_, as2, _, _, rfl, hmv2.1, hmv2.2, hB10, y9, hs10, hl10, hlen2, hR10⟩
    · rintro σ H5 ⟨mm, as, c5, c6, rfl, mm1, mm6, hB5, y5, hs5, hl5, hlen, hR5⟩
      obtain ⟨rows, g1, g2, g3⟩ := hR5.page
      exact ⟨_, rfl, k lr as rows H5 hB5 y5 nlr0 lb ll hl5 g1 g2 ⟨by omega, by omega, g3⟩⟩
end
end TG
namespace TG
open PySem L2 Gx
theorem same_new {H : Hp} {p : Addr} {o : HO} (n : H p = none) : Same H (upd H p o) := fun c u h => by rw [upd_ne (ne_of_none h n)]; exact h
theorem depthAll_strs : ∀ zs : List Str, PyData.depthAll (zs.map PyData.str) = 0
  | [] => rfl
  | _ :: r => by simp [PyData.depthAll, PyData.depth, depthAll_strs r]
theorem dp_strs {K : PySem.W.Frag} {H : Hp} : ∀ zs : List Str, DpAll K H (sV zs) (zs.map PyData.str)
  | [] => .nil
  | z :: zs => .cons (.str z) (dp_strs zs)
section
variable {P : Program} {w : World} {K : PySem.W.Frag} {mg : Str → Option Value} {base : Heap} {cs : List (Addr × Addr)}
end
end TG
namespace TG
open PySem L2 Gx
def loB (rows : List (List Str)) (c : Nat) : Nat → Nat
  | 0 => 0
  | i + 1 => if clB rows c i = true then loB rows c i else i + 1
section
variable {P : Program} {w : World} {K : PySem.W.Frag} {mg : Str → Option Value} {base : Heap} {cs : List (Addr × Addr)}
end
end TG
namespace TG
open PySem L2 Gx
end TG
namespace TG
open PySem L2 Gx
def wB (rows : List (List Str)) (gap least : Int) (i c : Nat) : Int := widthB (cellsB rows c (loB rows c i) (hiB rows c i)) gap least
def rB (rows : List (List Str)) (i c : Nat) : Bool := rightB (cellsB rows c (loB rows c i) (hiB rows c i))
end TG
namespace TG
open PySem L2 Gx
section
variable {P : Program} {w : World} {K : PySem.W.Frag} {mg : Str → Option Value} {base : Heap} {cs : List (Addr × Addr)}
end
end TG
namespace TG
open PySem L2 Gx
/-- the list at l holds what is told of the first n closed cells of row i -/
def CellsAt (H : Hp) (rows : List (List Str)) (gap least : Int) (i n : Nat) (l : Addr) : Prop :=
  ∃ ts : List Addr, H l = some (.lst (ts.map V.ref)) ∧ ts.length = n ∧ ∀ (c : Nat) (t : Addr), ts[c]? = some t → H t = some (.tup [.int (wB rows gap least i c), .bl (rB rows i c)])
theorem CellsAt.ext {H H' : Hp} {rows : List (List Str)} {gap least : Int} {i n : Nat} {l : Addr} (x : CellsAt H rows gap least i n l) (e : LamX.ExtN H H') : CellsAt H' rows gap least i n l :=
  let ⟨ts, h1, h2, h3⟩ := x
  ⟨ts, e _ _ h1 (by intro ps z; cases z), h2, fun c t h => e _ _ (h3 c t h) (by intro ps z; cases z)⟩
theorem CellsAt.upd {H : Hp} {rows : List (List Str)} {gap least : Int} {i n : Nat} {l p : Addr} {xs : List V} {o : HO} (x : CellsAt H rows gap least i n l) (hp : H p = some (.lst xs)) (ne : l ≠ p) : CellsAt (upd H p o) rows gap least i n l :=
  let ⟨ts, h1, h2, h3⟩ := x
  ⟨ts, by rw [upd_ne ne]; exact h1, h2, fun c t h => by rw [upd_ne (ne_of (h3 c t h) hp (by intro z; cases z))]; exact h3 c t h⟩
section
variable {P : Program} {w : World} {K : PySem.W.Frag} {mg : Str → Option Value} {base : Heap} {cs : List (Addr × Addr)}
end
end TG
namespace TG
open PySem L2 Gx
/-- the list at r holds lists of numbers, f tells them -/
structure ToldAt (H : Hp) (r : Addr) (es : List Addr) (f : Nat → List Int) (n : Nat) : Prop where
  lst : H r = some (.lst (es.map V.ref))
  len : es.length = n
  nd : es.Nodup
  at_ : ∀ (i : Nat) (e : Addr), es[i]? = some e → H e = some (.lst ((f i).map V.int))
theorem ToldAt.ext {H H' : Hp} {r : Addr} {es : List Addr} {f : Nat → List Int} {n : Nat} (t : ToldAt H r es f n) (x : LamX.ExtN H H') : ToldAt H' r es f n :=
  ⟨x _ _ t.lst (by intro ps z; cases z), t.len, t.nd, fun i e h => x _ _ (t.at_ i e h) (by intro ps z; cases z)⟩
theorem tabs_ext {cs : List (Addr × Addr)} {H H' : Hp} (t : Tabs cs H) (x : Same H H') : Tabs cs H' := fun p hp => let ⟨ps, h1, h2⟩ := t p hp; ⟨ps, x _ _ h1, h2⟩
theorem same_ext {H H' : Hp} (x : Same H H') : LamX.ExtN H H' := fun b o e _ => x b o e
section
variable {P : Program} {w : World} {K : PySem.W.Frag} {mg : Str → Option Value} {base : Heap} {cs : List (Addr × Addr)}
end
end TG
namespace TG
open PySem L2 Gx
section
variable {P : Program} {w : World} {K : PySem.W.Frag} {mg : Str → Option Value} {base : Heap} {cs : List (Addr × Addr)}
end
end TG
namespace TG
open PySem L2 Gx
section
variable {P : Program} {w : World} {K : PySem.W.Frag} {mg : Str → Option Value} {base : Heap} {cs : List (Addr × Addr)}
end
end TG
namespace TG
open PySem L2 Gx
theorem ToldAt.go {H H' : Hp} {r : Addr} {es : List Addr} {f : Nat → List Int} {n : Nat} (t : ToldAt H r es f n) (x : Same H H') : ToldAt H' r es f n := t.ext (same_ext x)
section
variable {P : Program} {w : World} {K : PySem.W.Frag} {mg : Str → Option Value} {base : Heap} {cs : List (Addr × Addr)}
end
end TG
namespace TG
open PySem L2 Gx
theorem ToldAt.congr {H : Hp} {r : Addr} {es : List Addr} {f g : Nat → List Int} {n : Nat} (t : ToldAt H r es f n) (e : ∀ i, i < n → f i = g i) : ToldAt H r es g n :=
  ⟨t.lst, t.len, t.nd, fun i u h => by rw [← e i (by rw [← t.len]; exact (List.getElem?_eq_some_iff.mp h).1)]; exact t.at_ i u h⟩
theorem ToldAt.put {H : Hp} {r : Addr} {es : List Addr} {f : Nat → List Int} {n i : Nat} {e : Addr} {xs : List Int} (t : ToldAt H r es f n) (he : es[i]? = some e) (ne : e ≠ r) : ToldAt (upd H e (.lst (xs.map V.int))) r es (fun k => if k = i then xs else f k) n := by
  refine ⟨by rw [upd_ne ne.symm]; exact t.lst, t.len, t.nd, fun k u h => ?_⟩
  by_cases q : k = i
  · subst q
    rw [he] at h
    cases h
    rw [upd_same, if_pos rfl]
  · rw [if_neg q, upd_ne (fun z => q (nd_ix t.nd h (by rw [z]; exact he)))]
    exact t.at_ k u h
section
variable {P : Program} {w : World} {K : PySem.W.Frag} {mg : Str → Option Value} {base : Heap} {cs : List (Addr × Addr)}
end
end TG
namespace TG
open PySem L2 Gx
def rowsD (rows : List (List Str)) : List PyData := rows.map fun r => .tuple (r.map .str)
theorem dp_rows {K : PySem.W.Frag} {H : Hp} : ∀ {as : List Addr} {rows : List (List Str)}, as.length = rows.length → (∀ (i : Nat) (q : Addr) (r : List Str), as[i]? = some q → rows[i]? = some r → SqT K H q (sV r)) → DpAll K H (as.map V.ref) (rowsD rows)
  | [], [], _, _ => .nil
  | [], _ :: _, h, _ => by simp at h
  | _ :: _, [], h, _ => by simp at h
  | a :: as, r :: rows, h, k => .cons (.tup (k 0 a r rfl rfl) (dp_strs r)) (dp_rows (by simpa using h) fun i q r' h1 h2 => k (i + 1) q r' (by simpa using h1) (by simpa using h2))
theorem depthAll_rows : ∀ rows : List (List Str), PyData.depthAll (rowsD rows) ≤ 1
  | [] => Nat.zero_le _
  | r :: rows => by
    show PyData.depthAll (.tuple (r.map .str) :: rowsD rows) ≤ 1
    simp only [PyData.depthAll, PyData.depth, depthAll_strs]
    have := depthAll_rows rows
    omega
theorem tabs_kb {cs : List (Addr × Addr)} {b l : Addr} {H H' : Hp} (t : Tabs cs H) (B : BoxAt H b l) (x : KB b l H H') : Tabs cs H' := fun p hp => by
  obtain ⟨ps, h1, h2⟩ := t p hp
  obtain ⟨ns, st, e1, e2, _⟩ := B
  exact ⟨ps, x _ _ h1 (ne_of h1 e1 (by intro z; cases z)) (ne_of h1 e2 (by intro z; cases z)), h2⟩
theorem box_ext {b l : Addr} {H H' : Hp} (B : BoxAt H b l) (x : LamX.ExtN H H') : BoxAt H' b l := let ⟨ns, st, h1, h2, h3⟩ := B; ⟨ns, st, x _ _ h1 (by intro ps z; cases z), x _ _ h2 (by intro ps z; cases z), h3⟩
/-- what stands in a turn of the law: the box, the tables, the page and its copy, the style -/
structure PageT (cs : List (Addr × Addr)) (b l p q h : Addr) (as : List Addr) (rows : List (List Str)) (gap least : Int) (H : Hp) : Prop where
  box : BoxAt H b l
  tab : Tabs cs H
  pg : H p = some (.lst (as.map V.ref))
  hd : H h = some (.lst (as.map V.ref))
  al : as.length = rows.length
  row : ∀ (i : Nat) (a : Addr) (z : List Str), as[i]? = some a → rows[i]? = some z → H a = some (.tup (sV z))
  sty : H q = some (.tup [.int gap, .int least])
  g0 : 0 ≤ gap
  g1 : gap ≤ 4
  l0 : 0 ≤ least
  l1 : least ≤ 12
  ok : PgOk rows
theorem PageT.ext {cs : List (Addr × Addr)} {b l p q h : Addr} {as : List Addr} {rows : List (List Str)} {gap least : Int} {H H' : Hp} (t : PageT cs b l p q h as rows gap least H) (x : LamX.ExtN H H') (y : Tabs cs H') : PageT cs b l p q h as rows gap least H' :=
  ⟨box_ext t.box x, y, x _ _ t.pg (by intro ps z; cases z), x _ _ t.hd (by intro ps z; cases z), t.al, fun i a z h1 h2 => x _ _ (t.row i a z h1 h2) (by intro ps z; cases z), x _ _ t.sty (by intro ps z; cases z), t.g0, t.g1, t.l0, t.l1, t.ok⟩
end TG
namespace Zm
open PySem PySem.Spec PyProof.Rows L2
section
variable {P : Program} {w : World} {A : Around} {E : Value → Shared → Prop} {s : Shared} {z TI TO i1 i2 l1 l2 : Addr}
end
end Zm
namespace Zm
open PySem PySem.Spec PyProof.Rows L2
abbrev k1 (h : Heap) (a : Addr) : Heap := h.push { cls := .type "tuple_iterator", data := .fields #[.ref a, .int 0 0] }
abbrev k2 (h : Heap) (a b : Addr) : Heap := (k1 h a).push { cls := .type "list_iterator", data := .fields #[.ref b, .int 0 0] }
abbrev k3 (h : Heap) (a b : Addr) : Heap := (k2 h a b).push { cls := .type "tuple", data := .seq #[.ref h.objs.size, .ref (k1 h a).objs.size] }
abbrev k4 (h : Heap) (a b : Addr) : Heap := (k3 h a b).push { cls := .type "tuple", data := .seq #[.none, .none] }
abbrev k5 (h : Heap) (a b : Addr) : Heap := (k4 h a b).push { cls := .type "zip", data := .fields #[.none, .bool false, .bool false, .ref (k2 h a b).objs.size, .ref (k3 h a b).objs.size] }
theorem made (a b : Addr) (xs ys : Array Value) : Meets (Builtin.«zip.__new__» ⟨[.type "zip", .ref a, .ref b], []⟩) (fun _ R t => t.heap.IsTuple a xs ∧ t.heap.IsList b ys ∧ R (.ok (.ret (.ref (k4 t.heap a b).objs.size))) { t with heap := k5 t.heap a b }) :=
  .of_wp fun P w A R t h => by
    obtain ⟨hp, g, d, tk, os⟩ := t
    obtain ⟨u1, u2, h⟩ := h
    have hsub := sub_zip
    have v1 : Heap.IsTuple (Shared.heap ⟨hp, g, d, tk, os⟩) a xs := u1
    have v2 : Heap.IsList (Shared.heap ⟨hp.push { cls := .type "tuple_iterator", data := .fields #[.ref a, .int 0 0] }, g, d, tk, os⟩) b ys := Heap.IsList.push u2 _
    wp_walk using wpAny_pyIter_tuple v1, wpAny_pyIter_list v2
    exact ⟨_, rfl, h⟩
section
variable {P : Program} {w : World} {A : Around} {E : Value → Shared → Prop} {s : Shared}
end
end Zm
namespace TG
open PySem L2 Gx
structure Small (rows : List (List Str)) (gap least : Int) : Prop where
  ok : PgOk rows
  g0 : 0 ≤ gap
  g1 : gap ≤ 4
  l0 : 0 ≤ least
  l1 : least ≤ 12
section
variable {P : Program} {w : World} {K : PySem.W.Frag} {mg : Str → Option Value} {base : Heap} {cs : List (Addr × Addr)}
end
end TG
namespace TG
open PySem L2 Gx
section
variable {P : Program} {w : World} {K : PySem.W.Frag} {mg : Str → Option Value} {base : Heap} {cs : List (Addr × Addr)}
end
end TG
namespace Lv
open PySem PySem.Spec PyProof.Rows L2 NdefX GenW
/-- the object at f is the lambda F of the body e -/
def FnL (f : Addr) (F : NF) (e : Expr) : HO := .ext fun h => ∃ (od : Option Addr) (sl : Array (Option Value)) (pm ctv : Value), h.get? f = some (⟨.type "function", od, .func (PySem.W.kla_fn F.name F.qual F.params e F.scope F.cl pm (.ref F.c) ctv), sl⟩ : Obj)
theorem fnL_at {P : Program} {w : World} {H : Hp} {h : Heap} {f : Addr} {F : NF} {e : Expr} (hok : HOk P w H h) (q : H f = some (FnL f F e)) : ∃ (od : Option Addr) (sl : Array (Option Value)) (pm ctv : Value), h.get? f = some (⟨.type "function", od, .func (PySem.W.kla_fn F.name F.qual F.params e F.scope F.cl pm (.ref F.c) ctv), sl⟩ : Obj) := by
  have z := hok f _ q
  obtain ⟨z, _, _⟩ := z
  exact z
section
variable {X : Cx} {pins : List (Addr × Obj)} {σ : L2.St} {H : Hp} {s : Shared}
theorem inv_lam {F : NF} {e : Expr} {tk : Nat} {pm ctv : Value} (I : Inv X pins σ H s) :
    Inv X pins σ (upd H s.heap.objs.size (FnL s.heap.objs.size F e)) { s with heap := s.heap.push (PySem.W.kla_obj F.name F.qual F.params e F.scope F.cl pm F.c ctv), toks := tk } := by
  refine I.laid (a := s.heap.objs.size) (fun b u q => Heap.get?_push_of_some _ q) (Nat.le_refl _) ?_
  have q : (s.heap.push (PySem.W.kla_obj F.name F.qual F.params e F.scope F.cl pm F.c ctv)).get? s.heap.objs.size = some (PySem.W.kla_obj F.name F.qual F.params e F.scope F.cl pm F.c ctv) := Heap.get?_push_size _ rfl
  exact ⟨⟨_, _, pm, ctv, q⟩, ⟨_, q⟩, fun h1 h2 ⟨od, sl, p, t, z⟩ st => ⟨od, sl, p, t, st _ z⟩⟩
/-- a lambda's object is made, its code object too, if the table has none yet -/
theorem lam_val {c P : Addr} {params : Arguments} {body : Expr} {scope : Scope} {pos : Pos} {E : Value → Shared → Prop} {Q : Value → Shared → Prop} (I : Inv X pins σ H s) (B : LamX.TabB X.base X.mg c P) (hcode : X.env.code = .ref c)
    (hT : LamX.TabS H P (X.env.qual ++ "<lambda>")) (hdef : defaultsOf params X.env = ([], [])) (hfree : ∀ y ∈ scope.names, y.2 = .free → ∃ c, X.env.cells.lookup y.1 = some c)
    (k : ∀ (f c' : Addr) (H1 : Hp) (s' : Shared), Inv X pins σ H1 s' → (∀ b o, H b = some o → b ≠ P → H1 b = some o) → (∀ b, H1 b = none → H b = none) → LamX.TabS H1 P (X.env.qual ++ "<lambda>") → H f = none →
      H1 f = some (FnL f ⟨"<lambda>", X.env.qual ++ "<lambda>", params, [], scope, cloFrom X.env.cells scope.names [], c'⟩ body) → H1 c' = some (LamX.CodeO c' (X.env.qual ++ "<lambda>")) → Q (.ref f) s') :
    wpAny (model X.prog X.w) X.A (eval (.Lambda params body scope pos) X.env) Q E s := by
  obtain ⟨ps, tP, tok, tin⟩ := hT
  have bP : s.heap.BuiltinsAt X.mg P := B.bm.keeps I.bk
  have gP : s.heap.get? P = some { cls := .none, data := .fields ps } := I.hok P _ tP
  have none3 : ∀ {G : Hp} {x y z : Addr} {o u v : HO} {b : Addr}, upd (upd (upd G x o) y u) z v b = none → G b = none := fun {G x y z o u v b} q => by
    have r1 := q
    unfold upd at r1
    split at r1
    · cases r1
    split at r1
    · cases r1
    split at r1
    · cases r1
    exact r1
  refine PySem.W.kla_eval hdef ?_
  cases hc : codeAmong pos ps.toList with
  | some cv =>
    obtain ⟨c', e, hco⟩ := tin pos cv hc
    subst e
    refine PySem.W.kla_makeFunctionHit (mg := X.mg) (c := c) (P := P) (ps := ps) (closure_ok hfree) I.ok.glob (I.mod.glob.keeps I.bk) hcode (B.code.keeps I.bk) gP tok hc bP fun ctv h' tk hx hsz => ?_
    have I1 : Inv X pins σ H { s with heap := h', toks := tk } := I.kept hx
    have nF : H h'.objs.size = none := I1.hok.fresh (Nat.le_refl _)
    have I2 := inv_lam (F := ⟨"<lambda>", X.env.qual ++ "<lambda>", params, [], scope, cloFrom X.env.cells scope.names [], c'⟩) (e := body) (tk := tk) (pm := (X.mg "__name__").getD .none) (ctv := ctv) I1
    refine k h'.objs.size c' _ _ I2 (fun b o q _ => by rw [upd_ne (ne_of_none q nF)]; exact q) (fun b q => ?_) ⟨ps, by rw [upd_ne (ne_of_none tP nF)]; exact tP, tok, fun p' cv' q => ?_⟩ nF upd_same (by rw [upd_ne (ne_of_none hco nF)]; exact hco)
    · unfold upd at q
      split at q
      · cases q
      · exact q
    · obtain ⟨c0, e1, e2⟩ := tin p' cv' q
      exact ⟨c0, e1, by rw [upd_ne (ne_of_none e2 nF)]; exact e2⟩
  | none =>
    refine PySem.W.kla_makeFunction (mg := X.mg) (c := c) (P := P) (ps := ps) (closure_ok hfree) I.ok.glob (I.mod.glob.keeps I.bk) hcode (B.code.keeps I.bk) gP tok hc B.gP bP fun c' ctv h' tk hx hge hlt hrec htb => ?_
    obtain ⟨c2, oc, vs, t, e2, hoc, hd, hv⟩ := hrec
    cases e2
    have nC : H c' = none := I.hok.fresh hge
    have I1 := LamX.inv_table (t' := tk) (more := #[rawInt pos.line, rawInt pos.col, .ref c']) (h' := h') I tP (fun b o hb q => hx b o hb q) htb hge ⟨oc, vs, t, hoc, hd, hv⟩
    have nF := I1.hok.fresh (Nat.le_refl _)
    have I2 := inv_lam (F := ⟨"<lambda>", X.env.qual ++ "<lambda>", params, [], scope, cloFrom X.env.cells scope.names [], c'⟩) (e := body) (tk := tk) (pm := (X.mg "__name__").getD .none) (ctv := ctv) I1
    have fC : h'.objs.size ≠ c' := Nat.ne_of_gt hlt
    have pC : P ≠ c' := ne_of_none tP nC
    have nF0 : H h'.objs.size = none := I.hok.fresh (Nat.le_trans hge (Nat.le_of_lt hlt))
    have pF : P ≠ h'.objs.size := ne_of_none tP nF0
    have eL : (ps ++ #[rawInt pos.line, rawInt pos.col, .ref c']).toList = ps.toList ++ [rawInt pos.line, rawInt pos.col, .ref c'] := by simp
    have kk : ∀ b o, H b = some o → b ≠ P → upd (upd (upd H P (.tbl (ps ++ #[rawInt pos.line, rawInt pos.col, .ref c']))) c' (LamX.CodeO c' (X.env.qual ++ "<lambda>"))) h'.objs.size (FnL h'.objs.size ⟨"<lambda>", X.env.qual ++ "<lambda>", params, [], scope, cloFrom X.env.cells scope.names [], c'⟩ body) b = some o := fun b o q hb => by
      rw [upd_ne (ne_of_none q nF0), upd_ne (ne_of_none q nC), upd_ne hb]
      exact q
    refine k h'.objs.size c' _ _ I2 kk (fun b q => none3 q) ⟨_, by rw [upd_ne pF, upd_ne pC, upd_same], by rw [eL]; exact PySem.TriplesOk_snoc _ _ _ _ tok, fun p' cv q => ?_⟩ nF0 upd_same (by rw [upd_ne fC.symm, upd_same])
    rw [eL] at q
    rcases LamX.among_app _ tok q with z | z
    · obtain ⟨c0, e1, e2⟩ := tin p' cv z
      exact ⟨c0, e1, kk _ _ e2 (fun y => by rw [y, tP] at e2; exact LamX.codeO_ne ps (Option.some.inj e2).symm)⟩
    · exact ⟨c', z, by rw [upd_ne fC.symm, upd_same]⟩
end
section
variable {P : Program} {w : World} {K : PySem.W.Frag} {mg : Str → Option Value} {base : Heap}
end
end Lv
namespace Tw
open PySem PySem.Spec PyProof.Rows L2
section
variable {X : Cx}
end
end Tw
namespace TG
open PySem L2 Gx PySem.Spec
def blk (c : Nat) : Bool := decide (c = 32)
def stripL (l : List Nat) : List Nat := ((l.dropWhile blk).reverse.dropWhile blk).reverse
abbrev bl (n : Nat) : List Nat := List.replicate n 32
def ch (l : List Nat) (p : Nat) : Nat := l.getD p 32
end TG
namespace TG
open PySem L2 Gx
section
variable {rows : List (List Str)} {gap least : Int} (S : Small rows gap least) {i : Nat} {r : List Str} (hr : rows[i]? = some r)
include S hr
end
end TG
namespace TG
open PySem L2 Gx
abbrev SS : List Nat := [32, 32]
def pieces (l : List Nat) : List (List Nat) := ((TL.spl SS 0 [] l).map stripL).filter fun p => decide (p ≠ [])
end TG
namespace TG
open PySem L2 Gx
section
variable {P : Program} {w : World} {K : PySem.W.Frag} {mg : Str → Option Value} {base : Heap} {cs : List (Addr × Addr)}
end
end TG
namespace TG
open PySem PySem.Spec PyProof.Rows L2 NdefX GenW Gx Lv
section
variable {P : Program} {w : World} {K : PySem.W.Frag} {mg : Str → Option Value} {base : Heap} {cs : List (Addr × Addr)}
theorem ex_code {H H' : Hp} {c : Addr} {q : Str} (x : Ex cs H H') (h : H c = some (LamX.CodeO c q)) : H' c = some (LamX.CodeO c q) := x.ext _ _ h fun ps => LamX.codeO_ne ps
end
end TG
namespace TG
open PySem PySem.Spec PyProof.Rows L2 NdefX GenW Gx Lv
theorem cutS_len (z : Str) (lo hi : Option Int) : (cutS z lo hi).length ≤ z.length := by
  have : (cutS z lo hi).cps.toList.length ≤ z.cps.toList.length := by
    unfold cutS
    simp only [List.length_take, List.length_drop, Array.length_toList]
    omega
  simpa [Str.length] using this
section
variable {P : Program} {w : World} {K : PySem.W.Frag} {mg : Str → Option Value} {base : Heap} {cs : List (Addr × Addr)}
end
end TG
namespace TG
open PySem PySem.Spec PyProof.Rows L2 NdefX GenW Gx Lv
abbrev LamT := Arguments × Expr × Scope
def sc00 : Scope := { kind := .function, names := [], isGenerator := false, isCoroutine := false }
section
variable {P : Program} {w : World} {K : PySem.W.Frag} {mg : Str → Option Value} {base : Heap} {cs : List (Addr × Addr)}
end
end TG
namespace TG
open PySem PySem.Spec PyProof.Rows L2 NdefX GenW Gx Lv
section
variable {P : Program} {w : World} {K : PySem.W.Frag} {mg : Str → Option Value} {base : Heap} {cs : List (Addr × Addr)}
/-- the lambdas' table at p is no table of cs -/
abbrev Apart (cs : List (Addr × Addr)) (p : Addr) : Prop := ∀ q ∈ cs, q.2 ≠ p
theorem tabS_ex {H H' : Hp} {p : Addr} {q : Str} (x : Ex cs H H') (ne : Apart cs p) (t : LamX.TabS H p q) : LamX.TabS H' p q := by
  obtain ⟨ps, h1, h2, h3⟩ := t
  refine ⟨ps, x.oth _ _ h1 ne, h2, fun pos cv hc => ?_⟩
  obtain ⟨c, e1, e2⟩ := h3 pos cv hc
  exact ⟨c, e1, ex_code x e2⟩
theorem tabG_of {H : Hp} {p : Addr} {q : Str} (t : LamX.TabS H p q) : GxR.TabG H p := by
  obtain ⟨ps, h1, h2, _⟩ := t
  exact ⟨ps, h1, h2⟩
theorem tabs_more {H : Hp} {c p : Addr} {q : Str} (T : Tabs cs H) (t : LamX.TabS H p q) : Tabs ((c, p) :: cs) H := fun r hr => by
  rcases List.mem_cons.mp hr with z | z
  · rw [z]; exact tabG_of t
  · exact T r z
theorem tabs_less {H : Hp} {c p : Addr} (T : Tabs ((c, p) :: cs) H) : Tabs cs H := fun r hr => T r (List.mem_cons_of_mem _ hr)
theorem ex_lam {H H' : Hp} {c p : Addr} {q : Str} (T : Tabs cs H) (ne : Apart cs p) (t : LamX.TabS H p q) (k1 : ∀ b o, H b = some o → b ≠ p → H' b = some o) (k2 : ∀ b, H' b = none → H b = none) (t' : LamX.TabS H' p q) : Ex ((c, p) :: cs) H H' := by
  obtain ⟨ps, h1, _⟩ := t
  refine ⟨fun b o h n => k1 b o h fun z => ?_, tabs_more (fun r hr => ?_) t', k2, fun b o h m => k1 b o h fun z => m (c, p) List.mem_cons_self z.symm⟩
  · rw [z, h1] at h
    cases h
    exact n ps rfl
  · obtain ⟨ps2, h3, h4⟩ := T r hr
    exact ⟨ps2, k1 _ _ h3 (ne r hr), h4⟩
end
end TG
namespace TG
open PySem PySem.Spec PyProof.Rows L2 NdefX GenW Gx Lv
section
variable {P : Program} {w : World} {K : PySem.W.Frag} {mg : Str → Option Value} {base : Heap} {cs : List (Addr × Addr)}
end
end TG
namespace TG
open PySem PySem.Spec PyProof.Rows L2 NdefX GenW Gx Lv Tw
/-- rows told anew, cell by cell: so far -/
structure GrowR (cs : List (Addr × Addr)) (H : Hp) (D : Addr) (rows : List (List Str)) (f : Str → Str) (i : Nat) (H' : Hp) : Prop where
  ex : Ex cs H H'
  nD : H D = none
  sat : ∃ ps : List Addr, H' D = some (.lst (ps.map V.ref)) ∧ ps.length = i ∧ ∀ (j : Nat) (q : Addr) (r : List Str), ps[j]? = some q → rows[j]? = some r → H' q = some (.tup (sV (r.map f)))
theorem GrowR.start {cs : List (Addr × Addr)} {H : Hp} {D : Addr} {rows : List (List Str)} {f : Str → Str} (hT : Tabs cs H) (n : H D = none) : GrowR cs H D rows f 0 (upd H D (.lst [])) :=
  ⟨Ex.laid hT n, n, [], upd_same, rfl, fun j q r h => by cases h⟩
theorem GrowR.go {cs : List (Addr × Addr)} {H H1 H2 : Hp} {D : Addr} {rows : List (List Str)} {f : Str → Str} {i : Nat} (o : GrowR cs H D rows f i H1) (x : Ex cs H1 H2) : GrowR cs H D rows f i H2 := by
  obtain ⟨ps, h1, h2, h3⟩ := o.sat
  exact ⟨o.ex.trans x, o.nD, ps, x.lst h1, h2, fun j q r a b => x.tup (h3 j q r a b)⟩
theorem GrowR.more {cs : List (Addr × Addr)} {H H1 : Hp} {D t : Addr} {rows : List (List Str)} {f : Str → Str} {i : Nat} {r : List Str} (hT : Tabs cs H) (o : GrowR cs H D rows f i H1) (hr : rows[i]? = some r) (ht : H1 t = some (.tup (sV (r.map f)))) :
    ∃ acc, H1 D = some (.lst acc) ∧ acc.length = i ∧ GrowR cs H D rows f (i + 1) (upd H1 D (.lst (acc ++ [.ref t]))) := by
  obtain ⟨ps, h1, h2, h3⟩ := o.sat
  have nDt : t ≠ D := fun e => by rw [e, h1] at ht; cases ht
  refine ⟨_, h1, by rw [List.length_map, h2], ex_new hT o.ex o.nD, o.nD, ps ++ [t], by rw [upd_same, List.map_append]; rfl, by rw [List.length_append, h2]; rfl, fun j q r2 a b => ?_⟩
  by_cases hj : j < ps.length
  · rw [List.getElem?_append_left hj] at a
    have h0 := h3 j q r2 a b
    rw [upd_ne (fun e => by rw [e, h1] at h0; cases h0)]
    exact h0
  · have hl2 := (List.getElem?_eq_some_iff.mp a).1
    rw [List.length_append, List.length_singleton] at hl2
    have ej : j = i := by omega
    subst ej
    rw [List.getElem?_append_right (by omega), h2, Nat.sub_self] at a
    cases a
    rw [hr] at b
    cases b
    rw [upd_ne nDt]
    exact ht
/-- the cells of one row, so far -/
structure GrowC (cs : List (Addr × Addr)) (H : Hp) (D : Addr) (r : List Str) (f : Str → Str) (i : Nat) (H' : Hp) : Prop where
  ex : Ex cs H H'
  nD : H D = none
  sat : H' D = some (.lst (sV ((r.take i).map f)))
theorem GrowC.start {cs : List (Addr × Addr)} {H : Hp} {D : Addr} {r : List Str} {f : Str → Str} (hT : Tabs cs H) (n : H D = none) : GrowC cs H D r f 0 (upd H D (.lst [])) :=
  ⟨Ex.laid hT n, n, upd_same⟩
theorem GrowC.more {cs : List (Addr × Addr)} {H H1 : Hp} {D : Addr} {r : List Str} {f : Str → Str} {i : Nat} {z : Str} (hT : Tabs cs H) (o : GrowC cs H D r f i H1) (hz : r[i]? = some z) :
    H1 D = some (.lst (sV ((r.take i).map f))) ∧ GrowC cs H D r f (i + 1) (upd H1 D (.lst (sV ((r.take i).map f) ++ [.str (f z)]))) := by
  refine ⟨o.sat, ex_new hT o.ex o.nD, o.nD, ?_⟩
  rw [upd_same, List.take_add_one, hz]
  simp [sV]
theorem GrowC.all {cs : List (Addr × Addr)} {H H1 : Hp} {D : Addr} {r : List Str} {f : Str → Str} (o : GrowC cs H D r f r.length H1) : H1 D = some (.lst (sV (r.map f))) := by
  have := o.sat
  rwa [List.take_of_length_le (Nat.le_refl _)] at this
section
variable {P : Program} {w : World} {K : PySem.W.Frag} {mg : Str → Option Value} {base : Heap} {cs : List (Addr × Addr)}
def rowsBy (f : Str → Str) (rows : List (List Str)) : List (List Str) := rows.map fun r => r.map f
theorem GrowR.page {H H' : Hp} {D : Addr} {rows : List (List Str)} {f : Str → Str} (o : GrowR cs H D rows f rows.length H') : ∃ ps, PageAt K H' D ps (rowsBy f rows) := by
  obtain ⟨ps, h1, h2, h3⟩ := o.sat
  refine ⟨ps, SqL.of h1, by rw [h2]; exact (List.length_map ..).symm, fun i q r a b => ?_⟩
  obtain ⟨r0, hr, rfl⟩ := get_map b
  exact .inl (.inl (h3 i q r0 a hr))
end
end TG
namespace TG
open PySem L2 Gx Lv
section
variable {rows : List (List Str)} {gap least : Int} (S : Small rows gap least) {i : Nat} {r : List Str} (hr : rows[i]? = some r)
include S hr
end
end TG
namespace TG
open PySem PySem.Spec PyProof.Rows L2 NdefX GenW Gx Lv
section
variable {P : Program} {w : World} {K : PySem.W.Frag} {mg : Str → Option Value} {base : Heap} {cs : List (Addr × Addr)}
theorem dp_pageAt {H : Hp} {a : Addr} {as : List Addr} {rows : List (List Str)} (t : PageAt K H a as rows) : Dp K H (.ref a) (.list (rowsD rows)) := .lst t.lst (dp_rows t.len t.row)
theorem dokAll_strs : ∀ zs : List Str, dokAll (zs.map PyData.str) = true
  | [] => rfl
  | z :: zs => by
    rw [List.map_cons]
    simp only [dokAll, dok, Bool.true_and]
    exact dokAll_strs zs
theorem dok_rows {rows : List (List Str)} (h : PgOk rows) : dok (.list (rowsD rows)) = true := by
  have key : ∀ rs : List (List Str), (∀ r ∈ rs, RowOk r) → dokAll (rowsD rs) = true := by
    intro rs
    induction rs with
    | nil => intro _; rfl
    | cons r rs ih =>
      intro h
      have h1 := (h r List.mem_cons_self).len
      show dokAll (PyData.tuple (r.map .str) :: rowsD rs) = true
      simp only [dokAll, dok, Bool.and_eq_true, decide_eq_true_eq, List.length_map]
      exact ⟨⟨by omega, dokAll_strs r⟩, ih fun x hx => h x (List.mem_cons_of_mem _ hx)⟩
  have hl := h.len
  simp only [dok, Bool.and_eq_true, decide_eq_true_eq]
  refine ⟨?_, key rows h.rows⟩
  unfold rowsD
  rw [List.length_map]
  omega
theorem PageAt.exL {H H' : Hp} {a : Addr} {as : List Addr} {rows : List (List Str)} (p : PageAt K H a as rows) (e : Ex cs H H') : PageAt K H' a as rows := p.ex e
theorem StyleAt.exL {H H' : Hp} {a : Addr} {gap least : Int} (p : StyleAt K H a gap least) (e : Ex cs H H') : StyleAt K H' a gap least := ⟨e.sqT p.tup, p.g0, p.g1, p.l0, p.l1⟩
theorem tabS_kb {b l p : Addr} {q : Str} {H H' : Hp} (t : LamX.TabS H p q) (B : BoxAt H b l) (x : KB b l H H') : LamX.TabS H' p q := by
  obtain ⟨ps, h1, h2, h3⟩ := t
  obtain ⟨ns, st, e1, e2, _⟩ := B
  have cne : ∀ {c : Addr} {q : Str} {xs : List V}, LamX.CodeO c q ≠ .lst xs := fun {c q xs} z => by unfold LamX.CodeO at z; cases z
  refine ⟨ps, x _ _ h1 (ne_of h1 e1 (by intro z; cases z)) (ne_of h1 e2 (by intro z; cases z)), h2, fun pos cv hc => ?_⟩
  obtain ⟨c, g1, g2⟩ := h3 pos cv hc
  exact ⟨c, g1, x _ _ g2 (ne_of g2 e1 cne) (ne_of g2 e2 cne)⟩
end
end TG
namespace Xi
open PySem PySem.Spec PyProof.Rows L2 NdefX
abbrev mwr (x : Addr) : Obj := PySem.W.kxs_mw "ValueError.__init__" x
/-- the bound __init__ of ValueError, tracked -/
def mwO (u x : Addr) : HO := .ext fun h => h.get? u = some (mwr x)
theorem mwO_ok {P : Program} {w : World} {H : Hp} {h : Heap} {u x : Addr} (e : h.get? u = some (mwr x)) : ObjOk P w H h u (mwO u x) := ⟨e, ⟨_, e⟩, fun _ _ z k => k _ z⟩
theorem mwO_at {P : Program} {w : World} {H : Hp} {h : Heap} {u x : Addr} (hok : HOk P w H h) (e : H u = some (mwO u x)) : h.get? u = some (mwr x) := by
  obtain ⟨z, _, _⟩ := hok u _ e
  exact z
section
variable {prog : Program} {w : World} {A : Around} {E : Value → Shared → Prop} {h : Heap} {g : Array GenState} {d : Drawn} {t : Nat} {os : OsState}
variable {nm q : Str} {C N : Addr} {bs bm : List Value} {hdct : Bool} {sn : List Str} {sub : List Value} {ab : Bool} {col : Option Bool} {dd : Option Addr} {k0 k1 k2 k3 k5 : Option Value}
theorem mw_call {u e t0 : Addr} {rest : List Value} {Q : Value → Shared → Prop}
    (hC : h.get? C = some (excClassObj nm q C N bs bm hdct sn sub ab col dd k0 k1 k2 k3 k5 "ValueError.__new__")) (he : h.get? e = some (HandSPX.excO C t0)) (hu : h.get? u = some (mwr e)) (hr : rest.length ≤ sizeLine)
    (hk : ∀ h' t1, (∀ b o, b ≠ e → h.get? b = some o → h'.get? b = some o) → h'.get? e = some (HandSPX.excO C t1) → Q .none ⟨h', g, d, t, os⟩) :
    wpAny (model prog w) A (call (.ref u) rest) Q E ⟨h, g, d, t, os⟩ := by
  refine wpAny_call (codeAny_of_tree ?_)
  show wpAny _ A.in1 (callAny (.ref u) ⟨rest, []⟩) _ _ ⟨h, g, d, t, os⟩
  simp only [callAny]
  refine wpAny_bind (wpAny_load hu ?_)
  simp only [PySem.W.kxs_mw, (by decide : (Value.type "method-wrapper" == Value.type "method" || Value.type "method-wrapper" == Value.type "builtin_function_or_method" || Value.type "method-wrapper" == Value.type "method-wrapper") = true), if_true]
  refine PySem.W.KFB.if_so (by decide) (wpAny_bind (ESX.check_bound PySem.F.excBase_ValueError hC he rfl (wpAny_bind (wpAny_pure (wpAny_pure ?_)))))
  refine ⟨PySem.plainId_quiet PySem.F.excBase_ValueError.init.plain _, codeAny_builtin PySem.F.excBase_ValueError.initEntry ?_⟩
  rw [Around.under_plainId PySem.F.excBase_ValueError.init.plain _]
  wp_walk
  exact hk _ h.objs.size (fun b o hb ho => (Heap.get?_update_other _ _ (Ne.symm hb)).trans (Heap.get?_push_of_some _ ho)) (by rw [Heap.get?_update_self _ (Heap.get?_push_of_some _ he) rfl]; rfl)
end
/-- what the written part says of such a class at C, its __init__ at f -/
structure SupI (P : Program) (K : PySem.W.Frag) (mg : Str → Option Value) (C f cc : Addr) (F : NF) (x : Str) : Prop where
  lk : ∃ oc od osl doc pm ctv, K.lookup f = some ⟨oc, od, .func (F.fd doc pm ctv), osl⟩
  cl : F.cl = [(("__class__" : Str), cc)]
  cell : ∃ a b s, K.lookup cc = some ⟨a, b, .cell (some (.ref C)), s⟩
  code : ∃ a b vs s file tf, K.lookup F.c = some ⟨a, b, .fields vs, s⟩ ∧ vs[2]? = some (.str file tf) ∧ (P.main.file == file) = true
  codeIn : PySem.W.codeIn K (.ref F.c) F.qual = true
  cls : ∃ cd, PySem.W.clsIn K C = some cd ∧ PySem.W.alongIn K "__init__" ((cd.mro.dropWhile (· != .ref C)).drop 1) = some (some (.builtin "ValueError.__init__"))
  self : PySem.W.mroIn K C (.ref C) = some true
  subB : PySem.W.subIn K (.ref C) (.type "ValueError") = some true
  opq : PySem.W.nsIn K cStatics "thirdparty.any" = some none
  sup : mg "super" = none
  top : (P.main.scope.names.lookup ("super" : Str)).isSome = false
  par : ∃ ar ar2, F.params.posonlyargs ++ F.params.args = [ar, ar2] ∧ ar.arg = "self"
  sc : NScope ["self", x, "__class__"] ["self", x] ["__class__"] F.scope
  supk : F.scope.names.lookup ("super" : Str) = some .globalImplicit
  bind : ∀ (doc pm ctv : Value) (us : List Value), us.length = 2 → bindArgs (F.fd doc pm ctv) ⟨us, []⟩ = pure ((["self", x] : List Str).zip us)
end Xi
namespace Xi
open PySem PySem.Spec PyProof.Rows L2 NdefX
def spI (C : Addr) (fl : Str) : Sp := fun vs H Q _ => ∃ (a : Addr) (n : Int), vs = [.ref a, .int n] ∧ 0 ≤ n ∧ n ≤ 100000 ∧ H a = some (exo a C none) ∧
  ∀ (dx : Addr) (H' : Hp), H' a = some (exo a C (some dx)) → H' dx = some (exd dx [(fl, .int n)]) → H dx = none → dx ≠ a → (∀ b o, H b = some o → b ≠ a → H' b = some o) → Q .non H'
section
variable {P : Program} {w : World} {K : PySem.W.Frag} {mg : Str → Option Value} {base : Heap} {CX : CXT}
theorem cells_cls {C f cc : Addr} {F : NF} {x : Str} {A : Around} {outer : List Env} {s : Shared} {H : Hp} (S : SupI P K mg C f cc F x) (e0 : Env0 P w K mg base A outer s H) : CellsAt F.cl ["__class__"] [none] s.heap H := by
  obtain ⟨a, b, sl, hc⟩ := S.cell
  have h1 := e0.mod.kin _ _ hc
  obtain ⟨h2, h3⟩ := e0.bs _ _ h1
  rw [S.cl]
  have lk : ∀ {y : Str} {c : Addr}, ([(("__class__" : Str), cc)] : List (Str × Addr)).lookup y = some c → y = "__class__" ∧ c = cc := fun {y c} e => by
    rw [List.lookup_cons] at e
    cases q : (y == ("__class__" : Str)) with
    | true => rw [q] at e; exact ⟨eq_of_beq q, (Option.some.inj e).symm⟩
    | false => rw [q] at e; cases e
  refine ⟨rfl, fun y c e => ?_, fun y z c e1 e2 => (lk e1).1.trans (lk e2).1.symm, fun i y e => ?_⟩
  · obtain ⟨_, rfl⟩ := lk e
    exact ⟨h3, _, _, h2, rfl⟩
  · match i, e with
    | 0, e =>
      cases e
      exact ⟨cc, rfl, fun v e => by cases e⟩
    | i + 1, e => simp at e
theorem ok_sup {C f cc : Addr} {F : NF} {x fl : Str} {k : Nat} {oc : Value} {od : Option Addr} {osl : Array (Option Value)} {doc pm ctv : Value} {msg : Expr} {tm : TE} {p0 p1 p2 p3 p4 p5 p6 p7 p8 : Pos} (T : OexC K C) (S : SupI P K mg C f cc F x)
    (lk : K.lookup f = some ⟨oc, od, .func (F.fd doc pm ctv), osl⟩) (hno : PySem.W.findIn K (.ref C) fl = some none) (hdbg : (x == ("__debug__" : Str)) = false) (hcd : (x == ("__classdict__" : Str)) = false)
    (hb : F.body = [.Expr (.Call (.Attribute (.Call (.Name "super" p0) [] [] p1) "__init__" p2) [msg] [] p3) p4, .Assign [.Attribute (.Name "self" p5) fl p6] (.Name x p7) p8])
    (hm : ∀ (A : Around) (outer : List Env) (s : Shared) (H : Hp) (E : XK), PE (ncx CX P w K mg base ["self", x, "__class__"] F f A outer s H E) msg tm)
    (hmr : ∀ (a : Addr) (n : Int) (H : Hp) (Q : VK), 0 ≤ n → n ≤ 100000 → (∀ z : Str, Q (.str z) H) → tm (startF ["self", x, "__class__"] [.ref a, .int n] [none]) H Q)
    (hs1 : ∀ env : Env, swapsWith (.Call (.Attribute (.Call (.Name "super" p0) [] [] p1) "__init__" p2) [msg] [] p3) none p4.line env = pure false) (hs2 : ∀ env : Env, swapsWith (.Name x p7) (some (.Attribute (.Name "self" p5) fl p6)) p8.line env = pure false)
    (hst : ∀ env : Env, starEach [msg] env = [(false, eval msg env)])
    (hev : ∀ env : Env, ∃ pl : Sem Bool, eval (.Call (.Attribute (.Call (.Name "super" p0) [] [] p1) "__init__" p2) [msg] [] p3) env = (do
      let ov ← attributeBase (.Call (.Name "super" p0) [] [] p1) "__init__" env (eval (.Call (.Name "super" p0) [] [] p1) env)
      standAt p2.atName
      let (f, first) ← holding [ov] (getMethod ov "__init__" pl)
      callWith p3 f first (backTo p3 (starEach [msg] env)) [])) :
    FnOk P w K mg base CX (k + 1) f (F.fd doc pm ctv) ["self", x] (spI C fl) := by
  refine ⟨fun vs H Q E h => ?_, fun A outer s H args us vs Q E hr e0 hbd r hsp => ?_⟩
  · obtain ⟨a, n, rfl, _⟩ := h
    rfl
  · obtain ⟨a, n, rfl, n0, n1, ha, hk⟩ := hsp
    have KX : K.In s.heap := e0.mod.kin.keeps fun b o e => (e0.bs b o e).1
    have lim : s.heap.NoLimit := e0.mod.nolimit.keeps fun b o e => (e0.bs b o e).1
    have hul : us.length = 2 := r.length.symm
    obtain ⟨u0, u1, rfl⟩ : ∃ u0 u1, us = [u0, u1] := by
      match us, hul with
      | [u0, u1], _ => exact ⟨u0, u1, rfl⟩
    have ru0 : u0 = .ref a := by cases r with | cons h _ => exact h
    subst ru0
    refine PySem.ks_codeAny_call_defAt hr.depth (KX _ _ lk) rfl lim (PySem.W.codeRec_of KX S.codeIn) rfl hbd S.sc.nocell (fun ⟨y, _⟩ hy => S.sc.par y (List.of_mem_zip hy).1) (fun h₁ hns kp => ?_) S.sc.co S.sc.gen S.sc.kind
    have I : Inv (ncx CX P w K mg base ["self", x, "__class__"] F f A outer s H E) [] (startF ["self", x, "__class__"] [.ref a, .int n] [none]) H { s with heap := h₁, toks := s.toks + ((["self", x] : List Str).zip [Value.ref a, u1]).length } :=
      inv_startN S.sc hr.hd e0 rfl r (cells_cls S e0) hns kp
    show PySem.wpAt (model P w) (A.deeper (envF F f s.heap.objs.size)) (.func F.body (envF F f s.heap.objs.size)) (execs F.body (envF F f s.heap.objs.size)) _ _ _
    generalize hs₁ : ({ s with heap := h₁, toks := s.toks + ((["self", x] : List Str).zip [Value.ref a, u1]).length } : Shared) = s₁ at I ⊢
    have hself : s₁.heap.Ns s.heap.objs.size fun y => ((["self", x] : List Str).zip [Value.ref a, u1]).reverse.lookup y := by rw [← hs₁]; exact hns
    clear hs₁ hns kp
    rw [hb]
    obtain ⟨pl, hpl⟩ := hev (envF F f s.heap.objs.size)
    refine PySem.ks_wpAt_execs_cons (PySem.ks_wpAt_Expr_any (PySem.ks_wpAt_MethodCall ?_ hpl) (by unfold interactive; rw [show (envF F f s.heap.objs.size).scope = F.scope from rfl, S.sc.kind]; rfl) (hs1 _))
    obtain ⟨ar, ar2, hpar, har⟩ := S.par
    obtain ⟨ca, cb, cvs, csl, file, tf, hcode, hvs, hfile⟩ := S.code
    obtain ⟨la, lb, lsl, hcell⟩ := S.cell
    obtain ⟨cd, hcl, hal⟩ := S.cls
    have X1 : K.In s₁.heap := I.kIn
    obtain ⟨oD, hD1, hD2⟩ : ∃ oD, s₁.heap.get? C = some oD ∧ oD.data = .cls cd := by
      unfold PySem.W.clsIn at hcl
      split at hcl
      · rename_i ho
        cases hcl
        exact ⟨_, X1 _ _ ho, rfl⟩
      · cases hcl
    refine PySem.ks_wpAt_super_base (env := envF F f s.heap.objs.size) S.supk (S.sc.frk _ (List.mem_singleton.mpr rfl)) (by decide) rfl (X1 _ _ lk) rfl (by rw [show (F.fd doc pm ctv).params = F.params from rfl, hpar]; rfl) rfl (X1 _ _ hcode) rfl hvs hfile S.top ?_
    obtain ⟨mb, hmb, hmb2⟩ := I.mod.blt
    refine PySem.W.ks_loadName_global S.sc.kind S.supk (Calls.loadGlobal_builtin (mg := mg) (mb := mb) (v := .type "super") (I.mod.glob.keeps I.bk) S.sup (hmb.keeps I.bk) ((hmb2 "super" (by decide)).trans (by decide +kernel)) ⟨rfl, ?_⟩)
    refine wpAny_loadName_free S.sc.kind (S.sc.frk _ (List.mem_singleton.mpr rfl)) (c := cc) (by rw [show (envF F f s.heap.objs.size).cells = F.cl from rfl, S.cl]; rfl) ⟨_, X1 _ _ hcell, rfl⟩ ?_
    rw [har]
    refine wpAny_loadName_local S.sc.kind (S.sc.par "self" List.mem_cons_self) hself (v := .ref a) ?_ ?_
    · have h1 : (x == ("self" : Str)) = false ∨ (x == ("self" : Str)) = true := by cases (x == ("self" : Str)) <;> simp
      have hne : ("self" : Str) ≠ x := by
        have q := S.sc.nd
        intro z
        rw [← z] at q
        simp at q
      exact zip_look (ps := ["self", x]) (us := [Value.ref a, u1]) (i := 0) (by simp [hne]) rfl rfl
    obtain ⟨t1, ho⟩ := exo_at I.hok ha
    obtain ⟨hh, g, d, t, os⟩ := s₁
    refine PySem.ks_wpAny_isType_cls hD1 hD2 ⟨rfl, ?_⟩
    refine PySem.ks_wpAny_call_super hD1 hD2 ho rfl (fun c e => by cases e) (PySem.W.looks_mroIn X1 S.self) (fun h2 e2 kq => ?_)
    have I1 : Inv (ncx CX P w K mg base ["self", x, "__class__"] F f A outer s H E) [] (startF ["self", x, "__class__"] [.ref a, .int n] [none]) H ⟨h2, g, d, t, os⟩ := I.kept (t' := t) kq
    have X2 : K.In h2 := I1.kIn
    have ho2 := kq _ _ ho
    have IA : PySem.W.InstAt h2 a { cls := .ref C, dict := none, data := .fields #[.ref t1, .none, .none, .none, .bool false, .none] } C none := ⟨ho2, rfl, rfl, trivial⟩
    refine PySem.W.kxs_getMethod PySem.W.kxs_ValueError e2 (PySem.W.looks_opaque X2 S.opq) (l₀ := cd.mro) ((PySem.W.looks_clsIn X2 hcl).andThen .now) rfl X2 hal (IA.type.andThen (PySem.W.looks_subIn X2 S.subB)) (PySem.W.ks_ne X2 IA hcl) rfl ?_
    have I2 := I1.laid (a := h2.objs.size) (t' := t + 1) (o := mwO h2.objs.size a) (h' := h2.push (mwr a)) (fun b o e => Heap.get?_push_of_some _ e) (Nat.le_refl _) (mwO_ok (Heap.get?_push_size _ rfl))
    have nu : H h2.objs.size = none := I1.hok.fresh (Nat.le_refl _)
    have au : a ≠ h2.objs.size := fun z => by rw [← z, ha] at nu; cases nu
    have hn2 : H (h2.objs.size) = none := nu
    generalize hu : h2.objs.size = u at I2 nu au hn2 ⊢
    have ha2 : (upd H u (mwO u a)) a = some (exo a C none) := by rw [upd_ne au]; exact ha
    have hu2 : (upd H u (mwO u a)) u = some (mwO u a) := upd_same
    generalize hH2 : upd H u (mwO u a) = H2 at I2 ha2 hu2
    refine PySem.W.kxs_callWith (i := "ValueError.__init__") (x := a) (by rw [hst]; rfl) ?_
    have hp : PA (ncx CX P w K mg base ["self", x, "__class__"] F f A outer s H E) [msg] (tCons tm tNil) := pa_cons (hm A outer s H E) pa_nil (hst _)
    have hrun := hp.run p3 [] _ _ H2 (fun vs H3 => (∃ z, vs = [V.str z]) ∧ H3 = H2) I2 (hmr a n H2 _ n0 n1 fun z => ⟨⟨z, rfl⟩, rfl⟩)
    have hst2 : starEach [msg] (ncx CX P w K mg base ["self", x, "__class__"] F f A outer s H E).env = [(false, eval msg (envF F f s.heap.objs.size))] := hst _
    rw [hst2] at hrun
    rw [hst]
    refine Calls.evalArgs_plain (thn hrun fun us3 s3 h3 => ?_)
    obtain ⟨vs3, H3, I3, r3, ⟨z, ez⟩, eH⟩ := h3
    subst ez eH
    refine ⟨mwO_at I3.hok hu2, ?_⟩
    obtain ⟨nm, q, N, bs, bm, sn, sub, ab, col, dd, k0, k1, k2, k3, k5, hC, hbm⟩ := T.cls
    obtain ⟨t3, ho3⟩ := exo_at I3.hok ha2
    have hl3 : us3.length ≤ sizeLine := by rw [← Paired.length r3]; exact (by decide : (1 : Nat) ≤ sizeLine)
    have hC3 := I3.kIn _ _ hC
    have hu3 := mwO_at I3.hok hu2
    obtain ⟨h3, g3, d3, t3', os3⟩ := s3
    refine mw_call hC3 ho3 hu3 hl3 (fun h4 t4 k4 hx4 => ?_)
    have J := I3.write (t' := t3') (x := a) (e := a) (o := exo a C none) (by rw [ha2]; exact True.intro) (.inl rfl) k4 ⟨_, hx4⟩ (exo_ok hx4)
    have eu : upd H3 a (exo a C none) = H3 := by
      funext b
      by_cases hb : b = a
      · rw [hb, upd_same, ha2]
      · rw [upd_ne hb]
    rw [eu] at J
    show PySem.wpAt _ _ _ (execs [.Assign [.Attribute (.Name "self" p5) fl p6] (.Name x p7) p8] (envF F f s.heap.objs.size)) _ _ _
    have ht : PSs (ncx CX P w K mg base ["self", x, "__class__"] F f A outer s H E) [.Assign [.Attribute (.Name "self" p5) fl p6] (.Name x p7) p8] _ :=
      pss_one (ps_ost (pe_var (i := 0) rfl (.inl (S.sc.par "self" List.mem_cons_self))) (pe_var (i := 1) rfl (.inl (S.sc.par x (List.mem_cons_of_mem _ List.mem_cons_self))) hdbg hcd) (hs2 _))
    refine wpAt_of_wpAny (wpAny_mono (ht.run [] _ _ H3 { nx := fun _ H' => Q .non H', rt := Q } J ⟨_, rfl, _, rfl, a, C, rfl, T, hno, .inl ⟨ha2, fun dx hdx hda => ?_⟩⟩) (fun fl' s' hs => ?_) fun e s' hs => hs)
    · have hdx0 : H dx = none ∧ dx ≠ u := by
        rw [← hH2] at hdx
        by_cases e : dx = u
        · rw [e, upd_same] at hdx; cases hdx
        · rw [upd_ne e] at hdx; exact ⟨hdx, e⟩
      refine hk dx _ upd_same (by rw [upd_ne hda, upd_same]) hdx0.1 hda fun b o e hba => ?_
      rw [upd_ne hba, upd_ne (ne_of_none e hdx0.1), ← hH2, upd_ne (ne_of_none e nu)]
      exact e
    · cases fl' with
      | next =>
        obtain ⟨σ', H', J', q'⟩ := hs
        exact ⟨.non, H', J'.os, J'.bare, J'.base, J'.hok, rfl, q'⟩
      | ret u =>
        obtain ⟨v, σ', H', J', rv, q'⟩ := hs
        exact ⟨v, H', J'.os, J'.bare, J'.base, J'.hok, rv, q'⟩
      | brk =>
        obtain ⟨_, _, _, q'⟩ := hs
        exact False.elim q'
      | cont =>
        obtain ⟨_, _, _, q'⟩ := hs
        exact False.elim q'
end
end Xi
namespace TG
open PySem L2 Gx
section
variable {P : Program} {w : World} {K : PySem.W.Frag} {mg : Str → Option Value} {base : Heap} {cs : List (Addr × Addr)}
end
end TG
namespace TG
open PySem PySem.Spec PyProof.Rows L2 NdefX GenW Gx Lv
/-- a class of errors whose begin takes a number and keeps it as the field fl -/
structure RaiseC (P : Program) (w : World) (K : PySem.W.Frag) (mg : Str → Option Value) (base : Heap) (x fl : Str) (C fI : Addr) (fdI : FuncData) : Prop where
  oex : OexC K C
  iC : PySem.W.findIn K (.ref C) "__init__" = some (some (.ref fI))
  tI : PySem.W.typeIn K (.ref fI) = some (.type "function")
  ini : FnOk P w K mg base CX0 1 fI fdI ["self", fl] (Xi.spI C fl)
  bd : Binds K fdI ["self", fl] []
  mg_ : mg x = some (.ref C)
section
variable {P : Program} {w : World} {K : PySem.W.Frag} {mg : Str → Option Value} {base : Heap} {cs : List (Addr × Addr)}
theorem _root_.Gx.Ex.kept {H H' : Hp} (t : Tabs cs H) (k : ∀ b o, H b = some o → H' b = some o) : Ex cs H H' := by
  refine ⟨fun b o h _ => k b o h, fun p hp => ?_, fun b h => ?_, fun b o h _ => k b o h⟩
  · obtain ⟨ps, h1, h2⟩ := t p hp
    exact ⟨ps, k _ _ h1, h2⟩
  · cases e : H b with
    | none => rfl
    | some o =>
      rw [k b o e] at h
      cases h
/-- what a raise of such an error asks, in short -/
theorem raise_go {fl : Str} {C : Addr} {ta : TA} {σ : L2.St} {H : Hp} {n : Int} {E : XK} (hT : Tabs cs H) (n0 : 0 ≤ n) (n1 : n ≤ 100000) (h : ∀ Q : List V → Hp → Prop, Q [.int n] H → ta σ H Q)
    (k : ∀ (d : Addr) (H' : Hp), Ex cs H H' → H d = none → H' d = some (.xd [(fl, .int n)]) → E (.ref C) (some d) H') : tMkO C (Xi.spI C fl) [] ta σ H E := by
  refine h _ ⟨by simp, fun a na => ⟨a, n, rfl, n0, n1, upd_same, fun dx H' h1 h2 h3 h4 h5 => ⟨rfl, dx, _, h1, h2, ?_, ?_⟩⟩⟩
  · rw [upd_ne h4] at h3
    exact h3
  · have hd : H dx = none := by rw [upd_ne h4] at h3; exact h3
    refine k dx _ (Ex.kept hT fun b o hb => ?_) hd upd_same
    have ha : b ≠ a := ne_of_none hb na
    have hb2 : b ≠ dx := ne_of_none hb hd
    rw [upd_ne hb2, del_ne ha]
    exact h5 b o (by rw [upd_ne ha]; exact hb) ha
end
end TG
namespace TG
open PySem PySem.Spec PyProof.Rows L2 NdefX GenW Gx Lv
section
variable {P : Program} {w : World} {K : PySem.W.Frag} {mg : Str → Option Value} {base : Heap} {cs : List (Addr × Addr)}
end
end TG
namespace TG
open PySem PySem.Spec PyProof.Rows L2 NdefX GenW Gx Lv
def initOf : Stmt → Stmt
  | .ClassDef _ _ _ [s] _ _ _ _ _ _ _ => s
  | s => s
abbrev iniL : Stmt := initOf (top 12)
abbrev nfI (c cc : Addr) : NF := ⟨"__init__", "BadText.__init__", defArgs iniL, defBody iniL, defScope iniL, [("__class__", cc)], c⟩
theorem log_ok {n : Int} (h0 : 0 ≤ n) (h1 : n ≤ 100000) : n.natAbs.log2 < 1920 := by
  by_cases h : n.natAbs = 0
  · rw [h]; decide
  · refine (Nat.log2_lt h).mpr (Nat.lt_of_lt_of_le (show n.natAbs < 2 ^ 17 by omega) (Nat.pow_le_pow_right (by decide) (by decide)))
theorem app_len (x y : Str) : (x ++ y).length = x.length + y.length := by
  have h := congrArg List.length (cl_app x y)
  rw [List.length_append] at h
  simpa [cl, Str.length] using h
section
variable {P : Program} {w : World} {K : PySem.W.Frag} {mg : Str → Option Value} {base : Heap}
theorem sc_iniL : NScope ["self", "row", "__class__"] ["self", "row"] ["__class__"] (defScope iniL) := nscope_by (by decide +kernel)
theorem ok_iniL {C f cc c : Addr} {oc : Value} {od : Option Addr} {osl : Array (Option Value)} {doc pm ctv : Value} (T : OexC K C) (S : Xi.SupI P K mg C f cc (nfI c cc) "row") (lk : K.lookup f = some ⟨oc, od, .func ((nfI c cc).fd doc pm ctv), osl⟩)
    (hno : PySem.W.findIn K (.ref C) "row" = some none) : FnOk P w K mg base CX0 1 f ((nfI c cc).fd doc pm ctv) ["self", "row"] (Xi.spI C "row") := by
  refine Xi.ok_sup (k := 0) T S lk hno (by decide +kernel) (by decide +kernel) rfl (fun A outer s H E => pe_joined (.cons pe_str (.cons (pe_fmt (pv 1)) (.cons pe_str .nil)))) (fun a n H Q n0 n1 q => ?_) (fun env => rfl) (fun env => rfl) (fun env => rfl) (fun env => ⟨_, rfl⟩)
  have l1 : (Str.empty ++ ("the text can't be from row " : Str)).length ≤ 100 := by decide +kernel
  have l2 : (Str.ofString (toString n)).length ≤ 9 := (num_ok n0 (by omega)).1
  have l3 : (" on" : Str).length = 3 := by decide +kernel
  have sz : (1000 : Nat) < sizeLine := by decide
  refine ⟨_, rfl, by omega, .int n, rfl, .inr ⟨n, rfl, log_ok n0 n1, _, rfl, ?_, _, rfl, ?_, q _⟩⟩
  · rw [app_len]
    have : (toString n : Str).length ≤ 9 := l2
    omega
  · rw [app_len, app_len]
    have : (toString n : Str).length ≤ 9 := l2
    omega
end
end TG
namespace TG
open PySem PySem.Spec PyProof.Rows L2 NdefX GenW Gx Lv
abbrev IniW : Type := Option (Str × Str × Arguments × FuncBody × Scope × Addr × List Str × Addr)
abbrev iniA (K : PySem.W.Frag) (x : Str) : Addr := He.ma K (He.ga K x) "__init__"
def iniW (K : PySem.W.Frag) (x : Str) : IniW := match K.lookup (iniA K x) with
  | some ⟨_, _, .func fd, _⟩ => some (fd.name, fd.qualname, fd.params, fd.body, fd.scope, fd.globals, fd.closure.map (·.1), fd.builtins)
  | _ => none
def oexB (K : PySem.W.Frag) (C : Addr) : Bool := match K.lookup C with
  | some ⟨.type "type", _, .cls cd, sl⟩ => (match cd.mro, sl.toList with
    | .ref C' :: bm, [_, _, _, _, some (.builtin n), _] => decide (C' = C) && decide (n = "ValueError.__new__") && (!cd.hasDel && (cd.hasDict && PySem.HandSPX.refsVE bm))
    | _, _ => false)
  | _ => false
theorem oexB_ok {K : PySem.W.Frag} {C : Addr} (h : oexB K C = true) : ∃ nm q N bs bm sn sub ab col dd k0 k1 k2 k3 k5, K.lookup C = some (excClassObj nm q C N bs bm true sn sub ab col dd k0 k1 k2 k3 k5 "ValueError.__new__") ∧ PySem.HandSPX.refsVE bm = true := by
  unfold oexB at h
  split at h
  · rename_i dd cd sl ho
    split at h
    · rename_i C' bm k0 k1 k2 k3 n k5 hm hs
      simp only [Bool.and_eq_true, decide_eq_true_eq, Bool.not_eq_true'] at h
      obtain ⟨⟨e1, e2⟩, hdel, hdict, ht⟩ := h
      subst e1 e2
      obtain ⟨nm, bs, mro, ns, qn, hd, sn, sub, ab, col, del⟩ := cd
      dsimp only at hm hdel hdict
      subst hm hdel hdict
      obtain ⟨l⟩ := sl
      dsimp only at hs
      subst hs
      exact ⟨nm, qn, ns, bs, bm, sn, sub, ab, col, dd, k0, k1, k2, k3, k5, ho, ht⟩
    · cases h
  · cases h
def cellB (K : PySem.W.Frag) (cc C : Addr) : Bool := match K.lookup cc with
  | some ⟨_, _, .cell (some (.ref a)), _⟩ => decide (a = C)
  | _ => false
theorem cellB_ok {K : PySem.W.Frag} {cc C : Addr} (h : cellB K cc C = true) : ∃ a b s, K.lookup cc = some ⟨a, b, .cell (some (.ref C)), s⟩ := by
  unfold cellB at h
  split at h
  · rename_i o1 o2 a sl e
    have := of_decide_eq_true h
    subst this
    exact ⟨_, _, _, e⟩
  · cases h
def fileB (K : PySem.W.Frag) (c : Addr) (main : Str) : Bool := match K.lookup c with
  | some ⟨_, _, .fields vs, _⟩ => (match (vs[2]? : Option Value) with
    | some (Value.str file _) => main == file
    | _ => false)
  | _ => false
theorem fileB_ok {K : PySem.W.Frag} {c : Addr} {main : Str} (h : fileB K c main = true) : ∃ a b vs s file tf, K.lookup c = some ⟨a, b, .fields vs, s⟩ ∧ vs[2]? = some (.str file tf) ∧ (main == file) = true := by
  unfold fileB at h
  split at h
  · rename_i o1 o2 vs sl e
    split at h
    · rename_i file tf hv
      exact ⟨_, _, vs, _, file, tf, e, hv, h⟩
    · cases h
  · cases h
def fnB (K : PySem.W.Frag) (C : Addr) (main : Str) (f : Addr) : Bool := match K.lookup f with
  | some ⟨_, _, .func fd, _⟩ => (match fd.closure, fd.code, fd.defaults, fd.kwdefaults, fd.annotations with
    | [(_, cc)], .ref c, .none, .none, none => cellB K cc C && (fileB K c main && PySem.W.codeIn K (.ref c) fd.qualname)
    | _, _, _, _, _ => false)
  | _ => false
def clsB (K : PySem.W.Frag) (C : Addr) : Bool := match PySem.W.clsIn K C with
  | some cd => decide (PySem.W.alongIn K "__init__" ((cd.mro.dropWhile (· != .ref C)).drop 1) = some (some (.builtin "ValueError.__init__")))
  | none => false
/-- the class x, whose begin keeps the field fl -/
def errB (main : Str) (x fl : Str) (K : PySem.W.Frag) : Bool :=
  oexB K (He.ga K x) && (He.eqO (PySem.W.nsIn K mainGlobals x) (some (some (.ref (He.ga K x)))) && (He.eqO (PySem.W.findIn K (.ref (He.ga K x)) "__setattr__") (some (some (.builtin "object.__setattr__"))) && (decide (PySem.W.subIn K (.ref (He.ga K x)) (.type "BaseException") = some true) && (decide (PySem.W.typeIn K (.ref (He.ga K x)) = some (.type "type")) && (PySem.W.keepIn K (.ref (He.ga K x)) &&
    (He.eqO (PySem.W.findIn K (.ref (He.ga K x)) "__init__") (some (some (.ref (iniA K x)))) && (decide (PySem.W.typeIn K (.ref (iniA K x)) = some (.type "function")) && (He.eqO (PySem.W.findIn K (.ref (He.ga K x)) fl) (some none) && (fnB K (He.ga K x) main (iniA K x) && (clsB K (He.ga K x) && (decide (PySem.W.mroIn K (He.ga K x) (.ref (He.ga K x)) = some true) &&
      (decide (PySem.W.subIn K (.ref (He.ga K x)) (.type "ValueError") = some true) && He.eqO (PySem.W.nsIn K cStatics "thirdparty.any") (some none)))))))))))))
theorem supk_iniL : (defScope iniL).names.lookup ("super" : Str) = some .globalImplicit := by decide +kernel
section
variable {P : Program} {w : World} {K : PySem.W.Frag} {mg : Str → Option Value} {base : Heap}
theorem binds_ini {cdd ccl : Addr} {doc pm ctv : Value} : Binds K ((nfI cdd ccl).fd doc pm ctv) ["self", "row"] [] := by
  refine Binds.all fun us hl => ?_
  match us, hl with
  | [_, _], _ => rfl
/-- the refusals BadText, from what the head tells -/
theorem raise_lines {h : Heap} (X : K.In h) (G : h.Ns mainGlobals mg) (e : errB P.main.file "BadText" "row" K = true)
    (hw : iniW K "BadText" = (some ("__init__", "BadText.__init__", defArgs iniL, .stmts (defBody iniL), defScope iniL, mainGlobals, ["__class__"], builtinsNs) : IniW)) (hs : mg "super" = none) (ht : (P.main.scope.names.lookup ("super" : Str)).isSome = false) :
    ∃ fdI, RaiseC P w K mg base "BadText" "row" (He.ga K "BadText") (iniA K "BadText") fdI := by
  obtain ⟨c1, e⟩ := He.ba e
  obtain ⟨c2, e⟩ := He.ba e
  obtain ⟨c3, e⟩ := He.ba e
  obtain ⟨c4, e⟩ := He.ba e
  obtain ⟨c5, e⟩ := He.ba e
  obtain ⟨c6, e⟩ := He.ba e
  obtain ⟨c7, e⟩ := He.ba e
  obtain ⟨c8, e⟩ := He.ba e
  obtain ⟨c9, e⟩ := He.ba e
  obtain ⟨ca, e⟩ := He.ba e
  obtain ⟨cb, e⟩ := He.ba e
  obtain ⟨cc, e⟩ := He.ba e
  obtain ⟨cd, ce⟩ := He.ba e
  have T : OexC K (He.ga K "BadText") := ⟨oexB_ok c1, He.eqO_ok c3, of_decide_eq_true c4, of_decide_eq_true c5, c6⟩
  unfold fnB at ca
  unfold iniW at hw
  split at ca
  · rename_i oc od fd osl lk
    rw [lk] at hw
    have hw := Option.some.inj hw
    split at ca
    · rename_i cy ccl cdd hcl hcode hdef hkw han
      obtain ⟨d1, d2⟩ := He.ba ca
      obtain ⟨d4, d3⟩ := He.ba d2
      obtain ⟨name, qual, params, body, scope, globals, closure, defaults, kwd, doc, pm, ann, code, ctv, bins⟩ := fd
      simp only [Prod.mk.injEq] at hw
      obtain ⟨w1, w2, w3, w4, w5, w6, w7, w8⟩ := hw
      dsimp only at hcl hcode hdef hkw han w1 w2 w3 w4 w5 w6 w7 w8 d3
      subst hcl hcode hdef hkw han w1 w2 w3 w4 w5 w6 w8
      have w7 : cy = "__class__" := by simpa using w7
      subst w7
      have S : Xi.SupI P K mg (He.ga K "BadText") (iniA K "BadText") ccl (nfI cdd ccl) "row" := by
        refine ⟨⟨oc, od, osl, doc, pm, ctv, lk⟩, rfl, cellB_ok d1, fileB_ok d4, d3, ?_, of_decide_eq_true cc, of_decide_eq_true cd, He.eqO_ok ce, hs, ht, ⟨_, _, rfl, rfl⟩, sc_iniL, supk_iniL, fun doc pm ctv us hl => ?_⟩
        · unfold clsB at cb
          split at cb
          · rename_i cd2 hcd
            exact ⟨cd2, hcd, of_decide_eq_true cb⟩
          · cases cb
        · match us, hl with
          | [_, _], _ => rfl
      exact ⟨_, T, He.eqO_ok c7, of_decide_eq_true c8, ok_iniL T S lk (He.eqO_ok c9), binds_ini, PySem.W.mg_of X G (He.eqO_ok c2)⟩
    · cases ca
  · cases ca
end
end TG
namespace TG
open PySem PySem.Spec PyProof.Rows L2
def rootsI (g : Addr → Option Obj) (n : Nat) : List Addr := cStatics :: He.asD g n
abbrev fragI (g : Addr → Option Obj) (n : Nat) : PySem.W.Frag := He.frT g (rootsI g n)
section
variable (n : Nat) (fa : List He.Fa) (fn : List He.DefD) (ts : List He.Tab) (tf : List He.Defn) (ex : PySem.W.Frag → Bool) (xs : List Str) (vals : List IniW)
def seenI (K : PySem.W.Frag) (g : Addr → Option Obj) : (He.AlT × Bool) × List IniW := ((He.obsT fa fn ts K, ex K && He.tabsB g tf K), xs.map (iniW K))
def obsI (g : Addr → Option Obj) : (He.AlT × Bool) × List IniW := seenI fa fn ts tf ex xs (fragI g n) g
theorem saysI {w : World} {h : Heap} (e : obsI n fa fn ts tf ex xs h.get? = ((He.valT fn ts w, true), vals)) : He.SaysX fa fn ts tf ex w h (fragI h.get? n) ∧ xs.map (iniW (fragI h.get? n)) = vals := by
  refine ⟨?_, congrArg Prod.snd e⟩
  have e1 : He.obsT fa fn ts (fragI h.get? n) = He.valT fn ts w := congrArg (fun z : (He.AlT × Bool) × List IniW => z.1.1) e
  have e2 : (ex (fragI h.get? n) && He.tabsB h.get? tf (fragI h.get? n)) = true := congrArg (fun z : (He.AlT × Bool) × List IniW => z.1.2) e
  obtain ⟨h1, h2⟩ := He.ba e2
  have at_ : ∀ p ∈ tf, PySem.W.codeHdIn (fragI h.get? n) (He.cT (fragI h.get? n) p).1 (He.cT (fragI h.get? n) p).2 = true ∧ ∃ o, h.get? (He.cT (fragI h.get? n) p).2 = some o ∧ He.emptyTab o = true := fun p hp => by
    obtain ⟨h3, h4⟩ := He.ba (List.all_eq_true.mp h2 p hp)
    cases q : h.get? (He.cT (fragI h.get? n) p).2 with
    | none => rw [q] at h4; cases h4
    | some o => rw [q] at h4; exact ⟨h3, o, rfl, h4⟩
  exact ⟨e1, h1, fun p hp => (at_ p hp).1, fun p hp => let ⟨_, o, q, z⟩ := at_ p hp; He.frT_none q z, fun p hp => let ⟨_, o, q, z⟩ := at_ p hp; by rw [q, He.emptyTab_eq z]⟩
def hookI : PySem.W.Hook where
  α := (He.AlT × Bool) × List IniW
  obs := fun s => obsI n fa fn ts tf ex xs s.heap.get?
  val := fun w => ((He.valT fn ts w, true), vals)
  says := fun w h => ∃ K : PySem.W.Frag, K.In h ∧ He.SaysX fa fn ts tf ex w h K ∧ xs.map (iniW K) = vals
  of := fun _ s e => ⟨_, He.frT_in, saysI n fa fn ts tf ex xs vals e⟩
  keeps := fun w h h' ⟨K, hK, c, e⟩ k => ⟨K, PySem.W.Frag.In.keeps hK k, ⟨c.t, c.more, c.hd, c.out, fun p hp => k _ _ (c.empty p hp)⟩, e⟩
theorem obsI_eq {g : Addr → Option Obj} {s : Shared} (h : ∀ a, g a = s.heap.get? a) : obsI n fa fn ts tf ex xs g = (hookI n fa fn ts tf ex xs vals).obs s := by
  have e : g = s.heap.get? := funext h
  rw [e]
  rfl
end
end TG
namespace TG
open PySem L2 Gx
section
variable {P : Program} {w : World} {K : PySem.W.Frag} {mg : Str → Option Value} {base : Heap} {cs : List (Addr × Addr)}
end
end TG
namespace TG
open PySem L2 Gx
section
variable {P : Program} {w : World} {K : PySem.W.Frag} {mg : Str → Option Value} {base : Heap} {cs : List (Addr × Addr)}
end
end TG
namespace TG
open PySem PySem.Spec PyProof.Rows L2 NdefX GenW Gx Lv
section
variable {P : Program} {w : World} {K : PySem.W.Frag} {mg : Str → Option Value} {base : Heap} {cs : List (Addr × Addr)}
end
end TG
namespace TG
open PySem PySem.Spec PyProof.Rows L2
abbrev cellF (o : Obj) : HO := .frz o (.own 0)
def addC (H : Hp) (cl : List (Addr × Obj)) : Hp := fun b => match cl.lookup b with
  | some o => some (cellF o)
  | none => H b
def delC (H : Hp) (cl : List (Addr × Obj)) : Hp := fun b => match cl.lookup b with
  | some _ => none
  | none => H b
theorem addC_in {H : Hp} {cl : List (Addr × Obj)} {b : Addr} {o : Obj} (h : cl.lookup b = some o) : addC H cl b = some (cellF o) := by unfold addC; rw [h]
theorem addC_out {H : Hp} {cl : List (Addr × Obj)} {b : Addr} (h : cl.lookup b = none) : addC H cl b = H b := by unfold addC; rw [h]
theorem delC_in {H : Hp} {cl : List (Addr × Obj)} {b : Addr} {o : Obj} (h : cl.lookup b = some o) : delC H cl b = none := by unfold delC; rw [h]
theorem delC_out {H : Hp} {cl : List (Addr × Obj)} {b : Addr} (h : cl.lookup b = none) : delC H cl b = H b := by unfold delC; rw [h]
section
variable {P : Program} {w : World}
theorem objOk_congr {H1 H2 : Hp} {h : Heap} {a : Addr} (k : ∀ b o, H1 b = some o → (∀ u v, o ≠ .frz u v) → H2 b = some o) : ∀ u : HO, ObjOk P w H1 h a u → ObjOk P w H2 h a u
  | .lst _, x => x
  | .tup _, x => x
  | .dK _, x => x
  | .dT _, ⟨x1, x2, xs, x3, x4⟩ => ⟨x1, x2, xs, x3.mono fun p q ⟨e1, e2, e3⟩ => ⟨e1, k _ _ e2 (fun u v z => by cases z), e3⟩, x4⟩
  | .set _ _, x => x
  | .ins _ _ _, ⟨x1, x2⟩ => ⟨k _ _ x1 (fun u v z => by cases z), x2⟩
  | .own _, x => x
  | .xd _, x => x
  | .rng _ _, x => x
  | .frz _ u, ⟨x1, x2⟩ => ⟨x1, objOk_congr k u x2⟩
  | .tbl _, x => x
  | .met _ _, x => x
  | .ext _, x => x
/-- the cells stand as they are told, and were untold -/
structure CellsIn (cl : List (Addr × Obj)) (base : Heap) (fs : List Addr) (h : Heap) : Prop where
  at_ : ∀ c o, cl.lookup c = some o → h.get? c = some o ∧ base.get? c = none ∧ c ∉ fs
theorem hok_add {H : Hp} {h : Heap} {cl : List (Addr × Obj)} (hk : HOk P w H h) (n : ∀ c o, cl.lookup c = some o → H c = none ∧ h.get? c = some o) : HOk P w (addC H cl) h := fun a o e => by
  cases q : cl.lookup a with
  | some u =>
    rw [addC_in q] at e
    cases e
    exact ⟨(n a u q).2, ⟨u, (n a u q).2⟩⟩
  | none =>
    rw [addC_out q] at e
    refine objOk_congr (fun b v hb _ => ?_) o (hk a o e)
    cases r : cl.lookup b with
    | some u => rw [(n b u r).1] at hb; cases hb
    | none => rw [addC_out r]; exact hb
theorem hok_del {H : Hp} {h : Heap} {cl : List (Addr × Obj)} (hk : HOk P w H h) (n : ∀ c o, cl.lookup c = some o → H c = some (cellF o)) : HOk P w (delC H cl) h := fun a o e => by
  cases q : cl.lookup a with
  | some u => rw [delC_in q] at e; cases e
  | none =>
    rw [delC_out q] at e
    refine objOk_congr (fun b v hb nf => ?_) o (hk a o e)
    cases r : cl.lookup b with
    | some u =>
      rw [n b u r] at hb
      cases hb
      exact absurd rfl (nf _ _)
    | none => rw [delC_out r]; exact hb
variable {K : PySem.W.Frag} {mg : Str → Option Value} {base : Heap} {A : Around} {outer : List Env} {s s' : Shared}
/-- told of: as a callee finds it -/
theorem env_add {H : Hp} {cl : List (Addr × Obj)} (e0 : Env0 P w K mg base A outer s H) (C : CellsIn cl base (frs outer) s.heap) (n : ∀ c o, cl.lookup c = some o → H c = none) : Env0 P w K mg base A outer s (addC H cl) := by
  refine ⟨e0.frames, e0.mod, fun b o hb => ⟨(e0.bs b o hb).1, ?_⟩, e0.bsz, e0.funs, fun b hb => ?_, hok_add e0.hok fun c o q => ⟨n c o q, (C.at_ c o q).1⟩, e0.bare⟩
  · cases r : cl.lookup b with
    | some u => rw [(C.at_ b u r).2.1] at hb; cases hb
    | none => rw [addC_out r]; exact (e0.bs b o hb).2
  · cases r : cl.lookup b with
    | some u => exact absurd hb (C.at_ b u r).2.2
    | none => rw [addC_out r]; exact e0.frf b hb
/-- untold of: as the frame that has the cells finds it -/
theorem env_del {H : Hp} {cl : List (Addr × Obj)} (e0 : Env0 P w K mg base A outer s H) (n : ∀ c o, cl.lookup c = some o → H c = some (cellF o)) : Env0 P w K mg base A outer s (delC H cl) := by
  refine ⟨e0.frames, e0.mod, fun b o hb => ⟨(e0.bs b o hb).1, ?_⟩, e0.bsz, e0.funs, fun b hb => ?_, hok_del e0.hok n, e0.bare⟩
  · cases r : cl.lookup b with
    | some u => exact delC_in r
    | none => rw [delC_out r]; exact (e0.bs b o hb).2
  · cases r : cl.lookup b with
    | some u => exact delC_in r
    | none => rw [delC_out r]; exact e0.frf b hb
theorem un_del {fs : List Addr} {H H' : Hp} {h h' : Heap} {cl : List (Addr × Obj)} (u : Un fs [] (addC H cl) H' h h') (hk : HOk P w H' h') (n : ∀ c o, cl.lookup c = some o → H c = none ∧ h.get? c = some o ∧ c ∉ fs) : Un fs [] H (delC H' cl) h h' := by
  have told : ∀ c o, cl.lookup c = some o → H' c = some (cellF o) := fun c o q => u.frzs c o _ (addC_in q)
  have out : ∀ {b : Addr} {o : HO}, H b = some o → cl.lookup b = none := fun {b o} hb => by
    cases r : cl.lookup b with
    | some v => rw [(n b v r).1] at hb; cases hb
    | none => rfl
  refine ⟨fun b o hb nb hf hx => ?_, fun b o hb nb hf hx => ?_, fun b o hb nb hx => ?_, fun b o hb hx => u.there b o hb hx, fun b xs hb => ?_, fun b o v hb => ?_, fun b ps hb => ?_⟩
  · cases r : cl.lookup b with
    | some v =>
      rw [(n b v r).2.1] at hb
      cases hb
      exact (hk b _ (told b _ r)).1
    | none => exact u.keep b o hb (by rw [addC_out r]; exact nb) hf hx
  · cases r : cl.lookup b with
    | some v => exact absurd hf (n b v r).2.2
    | none => exact u.slot b o hb (by rw [addC_out r]; exact nb) hf hx
  · cases r : cl.lookup b with
    | some v => exact delC_in r
    | none => rw [delC_out r]; exact u.free b o hb (by rw [addC_out r]; exact nb) hx
  · rw [delC_out (out hb)]
    exact u.tups b xs (by rw [addC_out (out hb)]; exact hb)
  · rw [delC_out (out hb)]
    exact u.frzs b o v (by rw [addC_out (out hb)]; exact hb)
  · obtain ⟨more, q⟩ := u.tbls b ps (by rw [addC_out (out hb)]; exact hb)
    exact ⟨more, by rw [delC_out (out hb)]; exact q⟩
/-- back from a callee that was told of the cells -/
theorem ce_del {H : Hp} {cl : List (Addr × Obj)} {Q : VK} {u : Value} (C : CellsIn cl base (frs outer) s.heap) (n : ∀ c o, cl.lookup c = some o → H c = none) (h : CE outer P w (addC H cl) s (fun v H' => (∀ c o, cl.lookup c = some o → H' c = some (cellF o)) → Q v (delC H' cl)) u s') : CE outer P w H s Q u s' := by
  obtain ⟨v, H', h1, h2, un, hk, r, q⟩ := h
  have told : ∀ c o, cl.lookup c = some o → H' c = some (cellF o) := fun c o e => un.frzs c o _ (addC_in e)
  exact ⟨v, delC H' cl, h1, h2, un_del un hk (fun c o e => ⟨n c o e, (C.at_ c o e).1, (C.at_ c o e).2.2⟩), hok_del hk told, r, q told⟩
theorem un_add {fs : List Addr} {H H' : Hp} {h h' : Heap} {cl : List (Addr × Obj)} (u : Un fs [] (delC H cl) H' h h') (n : ∀ c o, cl.lookup c = some o → H c = some (cellF o) ∧ h.get? c = some o ∧ c ∉ fs) : Un fs [] H (addC H' cl) h h' := by
  have frz : ∀ {b : Addr} {o : HO}, H b = some o → (∀ a v, o ≠ .frz a v) → cl.lookup b = none := fun {b o} hb nf => by
    cases r : cl.lookup b with
    | some v =>
      rw [(n b v r).1] at hb
      cases hb
      exact absurd rfl (nf _ _)
    | none => rfl
  refine ⟨fun b o hb nb hf hx => ?_, fun b o hb nb hf hx => ?_, fun b o hb nb hx => ?_, fun b o hb hx => u.there b o hb hx, fun b xs hb => ?_, fun b o v hb => ?_, fun b ps hb => ?_⟩
  · cases r : cl.lookup b with
    | some v => rw [(n b v r).1] at nb; cases nb
    | none => exact u.keep b o hb (by rw [delC_out r]; exact nb) hf hx
  · cases r : cl.lookup b with
    | some v => rw [(n b v r).1] at nb; cases nb
    | none => exact u.slot b o hb (by rw [delC_out r]; exact nb) hf hx
  · cases r : cl.lookup b with
    | some v => rw [(n b v r).1] at nb; cases nb
    | none => rw [addC_out r]; exact u.free b o hb (by rw [delC_out r]; exact nb) hx
  · have r := frz hb fun a v z => by cases z
    rw [addC_out r]
    exact u.tups b xs (by rw [delC_out r]; exact hb)
  · cases r : cl.lookup b with
    | some q =>
      rw [(n b q r).1] at hb
      rw [addC_in r]
      exact hb
    | none =>
      rw [addC_out r]
      exact u.frzs b o v (by rw [delC_out r]; exact hb)
  · have r := frz hb fun a v z => by cases z
    obtain ⟨more, q⟩ := u.tbls b ps (by rw [delC_out r]; exact hb)
    exact ⟨more, by rw [addC_out r]; exact q⟩
/-- behind the frame that has the cells: they are told of again -/
theorem ce_add {H : Hp} {cl : List (Addr × Obj)} {Q : VK} {u : Value} (hk0 : HOk P w H s.heap) (n : ∀ c o, cl.lookup c = some o → H c = some (cellF o) ∧ c ∉ frs outer) (h : CE outer P w (delC H cl) s (fun v H' => (∀ c o, cl.lookup c = some o → H' c = none) → Q v (addC H' cl)) u s') : CE outer P w H s Q u s' := by
  obtain ⟨v, H', h1, h2, un, hk, r, q⟩ := h
  have at0 : ∀ c o, cl.lookup c = some o → s.heap.get? c = some o := fun c o e => (hk0 c _ (n c o e).1).1
  refine ⟨v, addC H' cl, h1, h2, un_add un fun c o e => ⟨(n c o e).1, at0 c o e, (n c o e).2⟩, hok_add hk fun c o e => ?_, r, q fun c o e => un.free c o (at0 c o e) (delC_in e) (by simp)⟩
  exact ⟨un.free c o (at0 c o e) (delC_in e) (by simp), un.keep c o (at0 c o e) (delC_in e) (n c o e).2 (by simp)⟩
theorem cx_add {H : Hp} {cl : List (Addr × Obj)} {E : XK} {u : Value} (hk0 : HOk P w H s.heap) (n : ∀ c o, cl.lookup c = some o → H c = some (cellF o) ∧ c ∉ frs outer) (h : L2.CX P w outer (delC H cl) s (fun cls d H' => (∀ c o, cl.lookup c = some o → H' c = none) → E cls d (addC H' cl)) u s') : L2.CX P w outer H s E u s' := by
  obtain ⟨a, B, H', cls, d, e1, fly, hk, ub, na, h1, h2, q⟩ := h
  have at0 : ∀ c o, cl.lookup c = some o → s.heap.get? c = some o := fun c o e => (hk0 c _ (n c o e).1).1
  have atB : ∀ c o, cl.lookup c = some o → B.get? c = some o := fun c o e => ub.keep c o (at0 c o e) (delC_in e) (n c o e).2
  have frz : ∀ {b : Addr} {o : HO}, H b = some o → (∀ a v, o ≠ .frz a v) → cl.lookup b = none := fun {b o} hb nf => by
    cases r : cl.lookup b with
    | some v =>
      rw [(n b v r).1] at hb
      cases hb
      exact absurd rfl (nf _ _)
    | none => rfl
  refine ⟨a, B, addC H' cl, cls, d, e1, fly, hok_add hk fun c o e => ⟨ub.free c o (at0 c o e) (delC_in e), atB c o e⟩, ⟨fun b o hb nb hf => ?_, ub.slot, fun b o hb nb => ?_, ub.there, fun b xs hb => ?_, fun b o v hb => ?_, fun b ps hb => ?_⟩, ?_, h1, h2, q fun c o e => ub.free c o (at0 c o e) (delC_in e)⟩
  · cases r : cl.lookup b with
    | some v => rw [(n b v r).1] at nb; cases nb
    | none => exact ub.keep b o hb (by rw [delC_out r]; exact nb) hf
  · cases r : cl.lookup b with
    | some v => rw [(n b v r).1] at nb; cases nb
    | none => rw [addC_out r]; exact ub.free b o hb (by rw [delC_out r]; exact nb)
  · have r := frz hb fun a v z => by cases z
    rw [addC_out r]
    exact ub.tups b xs (by rw [delC_out r]; exact hb)
  · cases r : cl.lookup b with
    | some q =>
      rw [(n b q r).1] at hb
      rw [addC_in r]
      exact hb
    | none =>
      rw [addC_out r]
      exact ub.frzs b o v (by rw [delC_out r]; exact hb)
  · have r := frz hb fun a v z => by cases z
    obtain ⟨more, q⟩ := ub.tbls b ps (by rw [delC_out r]; exact hb)
    exact ⟨more, by rw [addC_out r]; exact q⟩
  · cases r : cl.lookup a with
    | some v =>
      have z := fly.2.1
      rw [atB a v r] at z
      cases z
    | none => rw [addC_out r]; exact na
end
end TG
namespace TG
open PySem PySem.Spec PyProof.Rows L2 NdefX GenW Gx Lv
/-- the captured names' cells, told of, hold these values -/
structure Caught (F : NF) (fr : List Str) (ws : List (Option V)) (cl : List (Addr × Obj)) (H : Hp) : Prop where
  len : ws.length = fr.length
  told : ∀ c o, cl.lookup c = some o → H c = some (cellF o)
  all : ∀ y c, F.cl.lookup y = some c → ∃ o v, cl.lookup c = some o ∧ o.data = .cell v
  inj : ∀ x y c, F.cl.lookup x = some c → F.cl.lookup y = some c → x = y
  has : ∀ (i : Nat) (y : Str), fr[i]? = some y → ∃ c, F.cl.lookup y = some c ∧ ∀ v, ws[i]? = some (some v) → ∃ o u, cl.lookup c = some o ∧ o.data = .cell (some u) ∧ RelV v u
section
variable {P : Program} {w : World} {K : PySem.W.Frag} {mg : Str → Option Value} {base : Heap}
structure LOkX (P : Program) (w : World) (K : PySem.W.Frag) (mg : Str → Option Value) (base : Heap) (k : Nat) (f : Addr) (F : NF) (e : Expr) (sp : Sp) : Prop where
  run : ∀ (A : Around) (outer : List Env) (s : Shared) (H : Hp) (Q : VK) (E : XK), Room k A → Env0 P w K mg base A outer s H → H f = some (FnL f F e) → H F.c = some (LamX.CodeO F.c F.qual) → sp [] H Q E →
    codeAny (model P w) A (.call (.ref f) ⟨[], []⟩) (CR (L2.CX P w) outer P w H s Q E) s
theorem lokx_of {k : Nat} {f : Addr} {F : NF} {e : Expr} {N fr : List Str} {sp : Sp} (S : NScope N [] fr F.scope) (hb : ∀ (pm ctv : Value), bindArgs (PySem.W.kla_fn F.name F.qual F.params e F.scope F.cl pm (.ref F.c) ctv) ⟨[], []⟩ = pure [])
    (hbody : ∀ (A : Around) (outer : List Env) (s : Shared) (H : Hp) (Q : VK) (E : XK), Room k (A.deeper (envF F f s.heap.objs.size)) → sp [] H Q E → ∃ (ws : List (Option V)) (cl : List (Addr × Obj)) (t : TE), Caught F fr ws cl H ∧
      PE (ncx (L2.CX P w) P w K mg base N F f A outer s (delC H cl) (fun cls d H' => (∀ c o, cl.lookup c = some o → H' c = none) → E cls d (addC H' cl))) e t ∧ t (startF N [] ws) (delC H cl) (fun v H' => (∀ c o, cl.lookup c = some o → H' c = none) → Q v (addC H' cl))) :
    LOkX P w K mg base (k + 1) f F e sp := by
  refine ⟨fun A outer s H Q E hr e0 hf hc hsp => ?_⟩
  have lim : s.heap.NoLimit := e0.mod.nolimit.keeps fun b o q => (e0.bs b o q).1
  obtain ⟨od, sl, pm, ctv, ho⟩ := fnL_at e0.hok hf
  obtain ⟨ws, cl, t, C, ht, hq⟩ := hbody A outer s H Q E (hr.deeper _) hsp
  have hnf : ∀ c o, cl.lookup c = some o → c ∉ frs outer := fun c o q hb => by
    have z := e0.frf c hb
    rw [C.told c o q] at z
    cases z
  have at0 : ∀ c o, cl.lookup c = some o → s.heap.get? c = some o := fun c o q => (e0.hok c _ (C.told c o q)).1
  refine codeAny_mono (R := CR (L2.CX P w) outer P w (delC H cl) s (fun v H' => (∀ c o, cl.lookup c = some o → H' c = none) → Q v (addC H' cl)) (fun cls d H' => (∀ c o, cl.lookup c = some o → H' c = none) → E cls d (addC H' cl))) ?_ fun r s' q => ?_
  · have e1 := env_del e0 C.told
    refine PySem.W.kla_callFunE hr.depth ho rfl S.co S.gen rfl (codeO_at e0.hok hc) ?_
    rw [hb pm ctv]
    refine wpAny_pure (wpAny_newFunctionEnv S.nocell (fun ⟨n, _⟩ hy => by cases hy) (fun h₁ hns hsb => ⟨lim.fresh _ hsb, ?_⟩) S.kind)
    have kp : ∀ b o, s.heap.get? b = some o → h₁.get? b = some o := fun b o q => hsb.extBut b o (Nat.ne_of_lt (Heap.lt_size q)) (Heap.get?_push_of_some _ q)
    have CA : NdefX.CellsAt F.cl fr ws s.heap (delC H cl) := by
      refine ⟨C.len, fun y c q => ?_, C.inj, fun i y q => ?_⟩
      · obtain ⟨o, v, h1, h2⟩ := C.all y c q
        exact ⟨delC_in h1, v, o, at0 c o h1, h2⟩
      · obtain ⟨c, h1, h2⟩ := C.has i y q
        refine ⟨c, h1, fun v hv => ?_⟩
        obtain ⟨o, u, h3, h4, h5⟩ := h2 v hv
        exact ⟨u, h5, o, at0 c o h3, h4⟩
    have I := inv_startN (CX := L2.CX P w) (P := P) (w := w) (E := fun cls d H' => (∀ c o, cl.lookup c = some o → H' c = none) → E cls d (addC H' cl)) (f := f) (tk := s.toks + (([] : List Str).zip ([] : List Value)).length) S hr.hd e1 (vs := []) (us := []) rfl .nil CA hns kp
    refine PySem.W.kla_codeExpr (wpAny_mono (ht.run [] _ (startF N [] ws) (delC H cl) _ I hq) (fun v s' q => ?_) fun e' s' q => q)
    obtain ⟨w', H', J, rv, q⟩ := q
    exact ⟨w', H', J.os, J.bare, J.base, J.hok, rv, q⟩
  · cases r with
    | error er => exact cx_add e0.hok (fun c o q => ⟨C.told c o q, hnf c o q⟩) q
    | ok fl =>
      cases fl with
      | ret u => exact ce_add e0.hok (fun c o q => ⟨C.told c o q, hnf c o q⟩) q
      | next => exact False.elim q
      | brk => exact False.elim q
      | cont => exact False.elim q
end
end TG
namespace TG
open PySem PySem.Spec PyProof.Rows L2 NdefX GenW Gx Lv
structure ToldC (cells : List (Str × Addr)) (N names : List Str) (σ : L2.St) (cl : List (Addr × Obj)) : Prop where
  all : ∀ y ∈ names, ∃ c o v, cells.lookup y = some c ∧ cl.lookup c = some o ∧ o.data = .cell v
  val : ∀ y ∈ names, ∀ c o, cells.lookup y = some c → cl.lookup c = some o → ∀ (i : Nat) (v : V), N[i]? = some y → σ[i]? = some (some v) → ∃ u, o.data = .cell (some u) ∧ RelV v u
  inj : ∀ y z c, cells.lookup y = some c → cells.lookup z = some c → y = z
theorem cells_list {h : Heap} {cells : List (Str × Addr)} : ∀ names : List Str, (∀ y ∈ names, ∃ c v, cells.lookup y = some c ∧ h.IsCell c v) →
    ∃ cl : List (Addr × Obj), (∀ c o, cl.lookup c = some o → h.get? c = some o ∧ ∃ y ∈ names, cells.lookup y = some c) ∧ ∀ y ∈ names, ∀ c, cells.lookup y = some c → ∃ o, cl.lookup c = some o
  | [], _ => ⟨[], ⟨fun c o e => by simp at e, fun y hy => by simp at hy⟩⟩
  | y :: names, k => by
    obtain ⟨cl, h1, h2⟩ := cells_list names fun z hz => k z (List.mem_cons_of_mem _ hz)
    obtain ⟨c, v, e1, o, e2, _⟩ := k y List.mem_cons_self
    refine ⟨(c, o) :: cl, fun c' o' e => ?_, fun z hz c' e => ?_⟩
    · rw [List.lookup_cons] at e
      by_cases q : c' = c
      · rw [q, beq_self_eq_true] at e
        cases e
        rw [q]
        exact ⟨e2, y, List.mem_cons_self, e1⟩
      · rw [beq_false_of_ne q] at e
        obtain ⟨g1, z, hz, g2⟩ := h1 c' o' e
        exact ⟨g1, z, List.mem_cons_of_mem _ hz, g2⟩
    · rw [List.lookup_cons]
      by_cases q : c' = c
      · rw [q, beq_self_eq_true]
        exact ⟨o, rfl⟩
      · rw [beq_false_of_ne q]
        rcases List.mem_cons.mp hz with r | r
        · rw [r, e1] at e
          exact absurd (Option.some.inj e).symm q
        · exact h2 z r c' e
def tCallC (cells : List (Str × Addr)) (N names : List Str) (sp : Sp) (t : TA) : TE := fun σ H Q => t σ H fun vs H1 => ∀ cl : List (Addr × Obj), ToldC cells N names σ cl → (∀ c o, cl.lookup c = some o → H1 c = none) →
  sp vs (addC H1 cl) (fun v H' => (∀ c o, cl.lookup c = some o → H' c = some (cellF o)) → Q v (delC H' cl)) (fun _ _ _ => False)
theorem pe_callC {X : Cx} {names : List Str} {k : Nat} {f : Addr} {fd : FuncData} {ps : List Str} {sp : Sp} {x : Str} {p pos : Pos} {e : Expr} {es : List Expr} {t : TA} (F : FnOk X.prog X.w X.K X.mg X.base CX0 k f fd ps sp) (hr : Room k X.A) (hg : Gl X x) (hm : X.mg x = some (.ref f)) (hk : PySem.W.keepIn X.K (.ref f) = true) (hb : Binds X.K fd ps [])
    (hfn : ∀ y ∈ names, X.fn y = true) (hcell : ∀ y ∈ names, X.env.kindOf y = some .cell) (ha : PA X (e :: es) t) (hdb : (x == ("__debug__" : Str)) = false := by decide) (he : starEach (e :: es) X.env = (false, eval e X.env) :: starEach es X.env := by rfl) (hpl : (backTo pos (starEach es X.env)).any (·.1) = false := by rfl) :
    PE X (.Call (.Name x p) (e :: es) [] pos) (tCallC X.env.cells X.N names sp t) := by
  refine ⟨fun pins s σ H Q I h => ?_⟩
  refine wpAny_Call_Name_kw (ld_glob I hg hm ?_ hdb)
  refine PySem.W.callWith_K (h₀ := X.base) I.ok.mod.kin hk (thn (ha.run pos pins s σ H _ I h) fun us s1 ⟨vs, H1, I1, r, q⟩ => ⟨I1.kIn, ?_⟩) he hpl
  show wpAny _ _ (call (.ref f) us) _ _ _
  have has : ∀ y ∈ names, ∃ c v, X.env.cells.lookup y = some c ∧ s1.heap.IsCell c v := fun y hy => by
    obtain ⟨c, hc⟩ := I1.ok.has y (.inl (hcell y hy))
    obtain ⟨v, hv⟩ := I1.cell y c hc
    exact ⟨c, v, hc, hv⟩
  obtain ⟨cl, c1, c2⟩ := cells_list names has
  have un : ∀ c o, cl.lookup c = some o → H1 c = none := fun c o e => by
    obtain ⟨_, y, _, hc⟩ := c1 c o e
    exact I1.freeC y c hc
  have C : CellsIn cl X.base (frs X.stack) s1.heap := ⟨fun c o e => by
    obtain ⟨g1, y, hy, hc⟩ := c1 c o e
    have ge := I1.ok.cab y c (hfn y hy) hc
    refine ⟨g1, ?_, fun hin => ?_⟩
    · cases z : X.base.get? c with
      | none => rfl
      | some u => exact absurd (Nat.lt_of_lt_of_le (Heap.lt_size (I1.ok.bs c u z).1) ge) (Nat.lt_irrefl _)
    · rcases List.mem_cons.mp (I1.stkSub c hin) with z | z
      · obtain ⟨m, hn, _⟩ := I1.loc
        obtain ⟨v, o2, q1, q2⟩ := I1.cell y c hc
        rw [z] at q1
        obtain ⟨o3, es3, ep3, q3, q4, _⟩ := hn
        rw [q1] at q3
        cases q3
        rw [q2] at q4
        cases q4
      · obtain ⟨_, o2, q1, _⟩ := I1.ok.funs.mem z
        exact absurd (Nat.lt_of_lt_of_le (Heap.lt_size q1) ge) (Nat.lt_irrefl _)⟩
  have T : ToldC X.env.cells X.N names σ cl := by
    refine ⟨fun y hy => ?_, fun y hy c o hc ho i v hN hs => ?_, I1.ok.inj⟩
    · obtain ⟨c, hc⟩ := I1.ok.has y (.inl (hcell y hy))
      obtain ⟨v, o2, q1, q2⟩ := I1.cell y c hc
      obtain ⟨o, ho⟩ := c2 y hy c hc
      have z := (c1 c o ho).1
      rw [q1] at z
      cases z
      exact ⟨c, _, v, hc, ho, q2⟩
    · obtain ⟨m, hn, loc⟩ := I1.loc
      obtain ⟨u, ru, lk⟩ := loc i y v hN hs (.inr (.inl (hcell y hy)))
      rcases lk with ⟨z, _⟩ | ⟨_, c', hc', o2, q1, q2⟩
      · rw [hcell y hy] at z; cases z
      · rw [hc] at hc'
        cases hc'
        have z := (c1 c o ho).1
        rw [q1] at z
        cases z
        exact ⟨u, q2, ru⟩
  have sq := q cl T un
  have hl : (us ++ []).length = ps.length := by rw [List.append_nil, ← r.length]; exact F.len _ _ _ _ sq
  have e1 := env_add I1.env0 C un
  have bd := hb s1 us I1.kIn hl
  rw [List.append_nil] at bd
  refine wpAny_call (codeAny_mono (F.run X.A X.stack s1 (addC H1 cl) ⟨us, []⟩ us vs _ _ hr e1 bd r sq) fun r' s' hq => ?_)
  cases r' with
  | error er => exact False.elim hq
  | ok fl =>
    cases fl with
    | ret u => exact I1.after (ce_del C un hq)
    | next => exact False.elim hq
    | brk => exact False.elim hq
    | cont => exact False.elim hq
end TG
namespace TG
open PySem PySem.Spec PyProof.Rows L2 NdefX GenW Gx Lv
/-- the reading of a lambda that captures cells of the frame -/
def tLamC (P : Addr) (q : Str) (params : Arguments) (body : Expr) (scope : Scope) (cl : List (Str × Addr)) : TE := fun _ H Q => LamX.TabS H P q ∧ ∀ (f c' : Addr) (H1 : Hp), (∀ b o, H b = some o → b ≠ P → H1 b = some o) → (∀ b, H1 b = none → H b = none) → LamX.TabS H1 P q → H f = none →
  H1 f = some (FnL f ⟨"<lambda>", q, params, [], scope, cl, c'⟩ body) → H1 c' = some (LamX.CodeO c' q) → Q (.ref f) H1
theorem pe_lamC {X : Cx} {c P : Addr} {params : Arguments} {body : Expr} {scope : Scope} {pos : Pos} (B : LamX.TabB X.base X.mg c P) (hcode : X.env.code = .ref c) (hdef : defaultsOf params X.env = ([], []))
    (hfr : ∀ y ∈ scope.names, y.2 = .free → X.env.kindOf y.1 = some .cell ∨ X.env.kindOf y.1 = some .free) :
    PE X (.Lambda params body scope pos) (tLamC P (X.env.qual ++ "<lambda>") params body scope (cloFrom X.env.cells scope.names [])) := by
  refine ⟨fun pins s σ H Q I h => ?_⟩
  obtain ⟨hT, h⟩ := h
  exact lam_val I B hcode hT hdef (fun y hy e => I.ok.has _ (hfr y hy e)) fun f c' H1 s' J k1 k2 t1 nf hf hc => ⟨.ref f, H1, J, rfl, h f c' H1 k1 k2 t1 nf hf hc⟩
end TG

namespace TG
open PySem PySem.Spec PyProof.Rows L2 NdefX GenW Gx Lv
/-! ### list.count, flat items -/
theorem cntU {y : V} : ∀ {ys : List V} {its : List Value}, Vals ys its → ys.all flatV = true → its.countP (eqU y) = ys.countP (fun z => eqV z y)
  | [], _, .nil, _ => rfl
  | z :: ys, _, .cons r t, f => by
    rw [List.all_cons, Bool.and_eq_true] at f
    rw [List.countP_cons, List.countP_cons, eqU_of r f.1, cntU t f.2]
def rCnt (K : PySem.W.Frag) : V → List V → Hp → VK → Prop := fun x xs H Q => ∃ (a : Addr) (ys : List V) (y : V), x = .ref a ∧ xs = [y] ∧ SqL K H a ys ∧ flatV y = true ∧ ys.all flatV = true ∧ Q (.int (ys.countP (fun z => eqV z y) : Nat)) H
theorem mt_cnt {X : Cx} : MtR X "list.count" (rCnt X.K) := by
  intro pins s σ H x xs v us Q I rx rxs h
  obtain ⟨a, ys, y, rfl, rfl, hs, fy, fys, q⟩ := h
  cases rx
  obtain ⟨u, rfl, ru⟩ := rxs.one
  obtain ⟨its, rv, ⟨⟨cls, dd, data, sl⟩, n, ho, hc, hdn, hd⟩, hlen⟩ := I.list hs
  simp only at hc hd
  subst hc hd
  have ec : its.toArray.toList.countP (eqU y) = ys.countP (fun z => eqV z y) := cntU rv fys
  refine call_meets PySem.F.slot_list_count ⟨_, ho, rfl⟩ PySem.F.entry_list_count (PySem.F.args_list_count_2 _ _) (SeqAt.list_countAt a its.toArray n dd sl u (eqU y)) ⟨ho, fun w hw => mem_eqAt ru fy rv fys w (by simpa using hw), ?_⟩
  refine ⟨.int (ys.countP (fun z => eqV z y) : Nat), H, I.tok _, ⟨s.toks, ?_⟩, q⟩
  rw [← ec]
/-! ### isinstance and fields of a caught error -/
/-- its dict, if it has one, is told of -/
def XdAt (H : Hp) (d : Option Addr) : Prop := d = none ∨ ∃ dd fs, d = some dd ∧ H dd = some (.xd fs)
def rIsX (K : PySem.W.Frag) (cls : Value) (d : Option Addr) (a : Addr) : List V → Hp → VK → Prop := fun xs H Q => ∃ (c : V) (cv : Value) (b : Bool) (D : Addr), xs = [.ref a, c] ∧ cls = .ref D ∧ ExcC K D ∧ (∀ u, RelV c u → u = cv) ∧ PySem.W.kitOne K (.ref D) cv = some b ∧ XdAt H d ∧ Q (.bl b) H
theorem isCls_of {K : PySem.W.Frag} {D : Addr} (h : PySem.W.hasDictIn K D = true) : (PySem.W.clsIn K D).isSome = true := by
  obtain ⟨cd, hc, _⟩ := PySem.W.any_some h
  rw [hc]
  rfl
section
variable {X : Cx} {a : Addr} {oe : Obj} {cls : Value} {d : Option Addr} {pn : List (Addr × Obj)}
theorem call_isX (hz : Zc cls d oe) (hf : ∃ vs, oe.data = .fields vs) : CallR (X.suite a ((a, oe) :: pn)) (.builtin "isinstance") (rIsX X.K cls d a) := by
  intro pins s σ H xs us Q I r h
  obtain ⟨c, cv, b, D, rfl, rfl, C, hcv, e, hd, q⟩ := h
  cases r with
  | cons rx rr =>
    cases rr with
    | cons rt rr =>
      cases rr
      cases rx
      have ec := hcv _ rt
      subst ec
      obtain ⟨hget, _⟩ := I.pin (a, oe) (List.mem_append.mpr (.inl List.mem_cons_self))
      obtain ⟨vs, hv⟩ := hf
      have nc : PySem.W.notCls oe = true := by
        unfold PySem.W.notCls
        rw [hv] <;> rfl
      have fin : ∀ tk, EP (X.suite a ((a, oe) :: pn)) pins σ Q (.bool b) { s with toks := tk } := fun tk => ⟨.bl b, H, I.kept (t' := tk) fun _ _ z => z, rfl, q⟩
      rcases hd with rfl | ⟨dd, fs, rfl, hdd⟩
      · have J : PySem.W.InstAt s.heap a oe D none := by
          obtain ⟨h1, h2⟩ := hz
          refine ⟨hget, h1, nc, ?_⟩
          rw [h2]
          trivial
        exact PySem.W.kia_one (PySem.W.kitx_exc (isCls_of C.hd) C.hg C.hk C.hs C.ha C.hn C.ht C.hm) I.kIn J e (fun z => nomatch z) fin
      · have hx : ObjOk X.prog X.w H s.heap dd (.xd fs) := I.hok dd _ hdd
        obtain ⟨mA, hns, _⟩ := hx
        obtain ⟨od, ho, _⟩ := lookIn_ns hns
        have J : PySem.W.InstAt s.heap a oe D (some od) := ⟨hget, hz.1, nc, by rw [hz.2]; exact ho⟩
        exact PySem.W.kia_one (PySem.W.kitx_exc (isCls_of C.hd) C.hg C.hk C.hs C.ha C.hn C.ht C.hm) I.kIn J e (fun z => nomatch z) fin
def tXfX (K : PySem.W.Frag) (a : Addr) (cls : Value) (d : Option Addr) (f : Str) (te : TE) : TE := fun σ H Q => ∃ C : Addr, XfC K C ∧ PySem.W.findIn K (.ref C) f = some none ∧ tXf a cls d C f te σ H Q
theorem pe_xfX {e : Expr} {te : TE} {pos : Pos} {n : Str} (hz : Zc cls d oe) (hf : ∃ vs, oe.data = .fields vs) (he : PE (X.suite a ((a, oe) :: pn)) e te) (hb : attributeBase e n X.env (eval e X.env) = eval e X.env := by rfl) :
    PE (X.suite a ((a, oe) :: pn)) (.Attribute e n pos) (tXfX X.K a cls d n te) := by
  refine ⟨fun pins s σ H Q I h => ?_⟩
  obtain ⟨C, T, hno, h⟩ := h
  exact (pe_xf T hno hz hf he hb).run pins s σ H Q I h
end
/-! ### rules for an except suite, whose readings don't speak of the error's object -/
section
variable {X : Cx} {a : Addr} {l : List (Addr × Obj)}
theorem ix_listU : IxR (X.suite a l) (rIxL X.K) := ix_list
theorem op_inU : OpR (X.suite a l) (compareOp .In) (rIn X.K false) := op_in_seq
theorem mt_cntU : MtR (X.suite a l) "list.count" (rCnt X.K) := mt_cnt
theorem mt_indexU : MtR (X.suite a l) "list.index" (rIndex X.K) := mt_index
theorem pe_bmU {T name id : String} {r : V → List V → Hp → VK → Prop} {o e : Expr} {es : List Expr} {to : TE} {t : TA} {apos cpos : Pos} (pa : PlainAttrs T) (slot : Slot T (name : Str) id) (hty : typeOf (.builtin id) = pure (.type "method_descriptor")) (hm : MtR (X.suite a l) id r)
    (ho : PE (X.suite a l) o to) (ha : PA (X.suite a l) (e :: es) t) (hbase : attributeBase o (name : Str) X.env (eval o X.env) = eval o X.env := by rfl)
    (hfew : ((backTo cpos (starEach (e :: es) X.env)).all (fun x => !x.1) && (backToKw cpos (keywordEach [] X.env)).all (fun x => x.1.isSome) && decide ((e :: es).length + ([] : List Keyword).length + (if ([] : List Keyword).isEmpty then 0 else 1) < 30)) = true := by rfl)
    (hline : (apos.endLine == cpos.line) = true := by rfl) (hs : starEach (e :: es) X.env = (false, eval e X.env) :: starEach es X.env := by rfl) (hplain : (backTo cpos (starEach es X.env)).any (·.1) = false := by rfl) :
    PE (X.suite a l) (.Call (.Attribute o (name : Str) apos) (e :: es) [] cpos) (tBM X.K T r to t) := pe_bm pa slot hty hm ho ha hbase hfew hline hs hplain
end
theorem xfC_of {K : PySem.W.Frag} {C : Addr} (h : ExcC K C) : XfC K C := ⟨h.hg, h.hk, h.hs, h.hd⟩
/-! ### a call by name of a lambda without parameters, in a try -/
def tCallX (P : Program) (w : World) (K : PySem.W.Frag) (mg : Str → Option Value) (base : Heap) (k i : Nat) (W : WX) : TE := fun σ H Q => ∃ (f : Addr) (F : NF) (e : Expr) (sp : Sp), σ[i]? = some (some (.ref f)) ∧ H f = some (FnL f F e) ∧ H F.c = some (LamX.CodeO F.c F.qual) ∧ LOkX P w K mg base k f F e sp ∧ sp [] H Q (WE W σ)
theorem pe_callX {X : Cx} {W : WX} {i k : Nat} {x : Str} {p pos : Pos} {P : Program} {w : World} {K : PySem.W.Frag} {mg : Str → Option Value} {base : Heap} (eX : X.prog = P ∧ X.w = w ∧ X.K = K ∧ X.mg = mg ∧ X.base = base) (hr : Room k X.A) (tk : Takes X W) (hN : X.N[i]? = some x) (hv : Vis X.env.scope x) (hd : (x == ("__debug__" : Str)) = false := by decide) (hcd : (x == ("__classdict__" : Str)) = false := by decide) :
    PE X (.Call (.Name x p) [] [] pos) (tCallX P w K mg base k i W) := by
  obtain ⟨rfl, rfl, rfl, rfl, rfl⟩ := eX
  refine ⟨fun pins s σ H Q I h => ?_⟩
  obtain ⟨f, F, b, sp, hs, hf, hc, L, q⟩ := h
  refine wpAny_Call_Name_kw (thn ((pe_var (pos := p) hN hv hd hcd).run pins s σ H (fun v H1 => v = .ref f ∧ H1 = H) I ⟨.ref f, hs, rfl, rfl⟩) fun u s1 ⟨v, H1, I1, r1, q1⟩ => ?_)
  obtain ⟨ev, eH⟩ := q1
  subst ev eH
  obtain rfl : u = Value.ref f := r1
  have at_ : PySem.W.FnAt f s1.heap := by
    obtain ⟨od, sl, pm, ctv, ho⟩ := fnL_at I1.hok hf
    exact ⟨_, od, _, sl, ho⟩
  refine PySem.W.callWith_F0 (first := []) at_ ?_
  refine wpAny_call (codeAny_mono (L.run X.A X.stack s1 H1 Q (WE W σ) hr I1.env0 hf hc q) fun r' s' hq => ?_)
  cases r' with
  | error er => exact passAt tk σ pins H1 s1 er s' I1 hq
  | ok fl =>
    cases fl with
    | ret u => exact I1.after hq
    | next => exact False.elim hq
    | brk => exact False.elim hq
    | cont => exact False.elim hq
end TG

namespace TG
open PySem PySem.Spec PyProof.Rows L2 NdefX GenW Gx Lv
/-! ### the eleven classes, and what _law_told tells of them -/
def excNm : List Str := ["BadPage", "BadStyle", "BadRow", "BadCell", "BadCount", "BadLines", "BadStep", "BadStroke", "BadText", "BadHand", "TooMuch"]
def excFl : List Str := ["row", "", "", "", "", "line", "number", "number", "row", "", ""]
abbrev nmE (j : Nat) : Str := excNm.getD j ""
abbrev flE (j : Nat) : Str := excFl.getD j ""
structure Errs (K : PySem.W.Frag) (mg : Str → Option Value) : Prop where
  mg_ : ∀ j, j < 11 → mg (nmE j) = some (.ref (He.ga K (nmE j)))
  grow : mg "GrowError" = some (.ref (He.ga K "GrowError"))
  exc : ∀ j, j < 11 → ExcC K (He.ga K (nmE j))
  sub : ∀ j, j < 11 → PySem.W.exmOne K (.ref (He.ga K (nmE j))) (.ref (He.ga K "GrowError")) = some true
  val : ∀ j, j < 11 → PySem.W.kitOne K (.ref (He.ga K (nmE j))) (.type "ValueError") = some true
  kit : ∀ i j, i < 11 → j < 11 → PySem.W.kitOne K (.ref (He.ga K (nmE i))) (.ref (He.ga K (nmE j))) = some (decide (i = j))
  fld : ∀ j, j < 11 → flE j ≠ "" → PySem.W.findIn K (.ref (He.ga K (nmE j))) (flE j) = some none
  ve : mg "ValueError" = none
/-- the error of the j-th class, whose value, if it has one, is n -/
structure ErrAt (K : PySem.W.Frag) (H : Hp) (j : Nat) (n : Int) (cls : Value) (d : Option Addr) : Prop where
  lt : j < 11
  cls : cls = .ref (He.ga K (nmE j))
  yes : flE j ≠ "" → ∃ dd, d = some dd ∧ H dd = some (.xd [(flE j, .int n)])
  no : flE j = "" → n = 0 ∧ d = none
theorem ErrAt.xd {K : PySem.W.Frag} {H : Hp} {j : Nat} {n : Int} {cls : Value} {d : Option Addr} (e : ErrAt K H j n cls d) : XdAt H d := by
  by_cases h : flE j = ""
  · exact .inl (e.no h).2
  · obtain ⟨dd, h1, h2⟩ := e.yes h
    exact .inr ⟨dd, _, h1, h2⟩
theorem Ex.xd {cs : List (Addr × Addr)} {H H' : Hp} {a : Addr} {fs : List (Str × V)} (e : Ex cs H H') (h : H a = some (.xd fs)) : H' a = some (.xd fs) := e.ext _ _ h fun ps q => by cases q
theorem ErrAt.ex {cs : List (Addr × Addr)} {K : PySem.W.Frag} {H H' : Hp} {j : Nat} {n : Int} {cls : Value} {d : Option Addr} (e : ErrAt K H j n cls d) (x : Ex cs H H') : ErrAt K H' j n cls d :=
  ⟨e.lt, e.cls, fun h => let ⟨dd, h1, h2⟩ := e.yes h; ⟨dd, h1, Ex.xd x h2⟩, e.no⟩
def kindsR (j m : Nat) : List V := (List.range m).map fun i => V.bl (decide (j = i))
theorem word_in : ∀ j, j < 11 → inV (.str (nmE j)) [.str "BadPage", .str "BadText"] = decide (j = 0 ∨ j = 8) := by decide +kernel
theorem word_in2 : ∀ j, j < 11 → inV (.str (nmE j)) [.str "BadStep", .str "BadStroke"] = decide (j = 6 ∨ j = 7) := by decide +kernel
theorem word_eq : ∀ j, j < 11 → decide (nmE j = "BadLines") = decide (j = 5) := by decide +kernel
theorem word_fl : ∀ j, j < 11 → ¬ (j = 0 ∨ j = 8) → ¬ j = 5 → ¬ (j = 6 ∨ j = 7) → flE j = "" := by decide +kernel
theorem kinds_cnt : ∀ j, j < 11 → (kindsR j 11).countP (fun z => eqV z (.bl true)) = 1 := by decide +kernel
theorem kinds_flat : ∀ j, j < 11 → (kindsR j 11).all flatV = true := by decide +kernel
theorem kinds_at : ∀ j, j < 11 → (kindsR j 11)[j]? = some (.bl true) := by decide +kernel
theorem kinds_no : ∀ j, j < 11 → ∀ m, m < j → (kindsR j 11)[m]? = some (.bl false) := by decide +kernel
section
variable {P : Program} {w : World} {K : PySem.W.Frag} {mg : Str → Option Value} {base : Heap} {cs : List (Addr × Addr)}
def spTells (P : Program) (w : World) (K : PySem.W.Frag) (mg : Str → Option Value) (base : Heap) (cs : List (Addr × Addr)) (kl : Nat) : Sp := fun vs H Q _ => ∃ (f : Addr) (F : NF) (e : Expr) (sp : Sp),
  vs = [.ref f] ∧ H f = some (FnL f F e) ∧ H F.c = some (LamX.CodeO F.c F.qual) ∧ LOkX P w K mg base kl f F e sp ∧
  ∀ E : XK, (∀ (cls : Value) (d : Option Addr) (H1 : Hp) (j : Nat) (n : Int), ErrAt K H1 j n cls d → Tabs cs H1 → (∀ (T : Addr) (H2 : Hp), Ex cs H1 H2 → H1 T = none → H2 T = some (.tup [.str (nmE j), .int n]) → Q (.ref T) H2) → E cls d H1) → sp [] H Q E
abbrev nmTold : List Str := ["_law_work", "e", "_law_kinds", "_law_words", "_law_word"]
theorem sc_tells : FnScope nmTold ["_law_work"] (defScope s_told) := ⟨rfl, rfl, rfl, by decide +kernel, rfl, by decide +kernel, by decide +kernel⟩
theorem names_get (j : Nat) : ∀ {H : Hp} {Q : VK} {a : Addr}, j < 11 → H a = some (.lst (excNm.map V.str)) → Q (.str (nmE j)) H → ∃ (p : Addr) (items : List V) (i : Int) (v : V), V.ref a = .ref p ∧ V.int (j : Nat) = .int i ∧ SqL K H p items ∧ atI items i = some v ∧ Q v H := fun {H Q a} hj ha q =>
  ⟨a, _, _, _, rfl, rfl, SqL.of ha, atI_nat (v := .str (nmE j)) (by
    rw [List.getElem?_map]
    have : excNm[j]? = some (nmE j) := by
      have h2 : j < excNm.length := hj
      rw [List.getElem?_eq_getElem h2]
      simp [nmE, List.getD, List.getElem?_eq_getElem h2]
    rw [this]
    rfl), q⟩
theorem ok_tells {f : Addr} {fd : FuncData} {kl : Nat} (T : Txt mg) (Er : Errs K mg) (F : Fun K "_law_told" "_law_told" s_told f fd) : FnOk P w K mg base CX0 (kl + 1) f fd ["_law_work"] (spTells P w K mg base cs kl) := by
  refine F.ok sc_tells (fun vs H Q E h => ?_) (fun cdv A outer s H vs Q E hr h => ?_)
  · obtain ⟨f, F, e, sp, rfl, _⟩ := h
    rfl
  · obtain ⟨fl, Fl, el, sp, rfl, hf, hc, L, k⟩ := h
    have nd := sc_tells.nd
    refine ⟨_, pss_one (ps_try_as (i := 1) rfl rfl nd rfl rfl ⟨rfl, by decide, .inl Er.grow⟩ takes0 (fun W pn xe tk _ => pss_one (ps_ret (pe_callX (P := P) (w := w) (K := K) (mg := mg) (base := base) (k := kl) (i := 0) ⟨rfl, rfl, rfl, rfl, rfl⟩ hr tk rfl (.inl rfl))))
      (fun a oe cls d pn hz hf => 
        pss_cons (ps_set (i := 2) nd rfl (.inl rfl) (pe_lst (pa_cons (pe_callB (call_isX hz hf) (by rfl) T.isin (by decide +kernel) (pa_cons (pv 1) (pa_cons (pe_glob (v := .ref (He.ga K (nmE 0))) rfl (Er.mg_ 0 (by decide)) rfl) pa_nil)))
            (pa_cons (pe_callB (call_isX hz hf) (by rfl) T.isin (by decide +kernel) (pa_cons (pv 1) (pa_cons (pe_glob (v := .ref (He.ga K (nmE 1))) rfl (Er.mg_ 1 (by decide)) rfl) pa_nil)))
            (pa_cons (pe_callB (call_isX hz hf) (by rfl) T.isin (by decide +kernel) (pa_cons (pv 1) (pa_cons (pe_glob (v := .ref (He.ga K (nmE 2))) rfl (Er.mg_ 2 (by decide)) rfl) pa_nil)))
            (pa_cons (pe_callB (call_isX hz hf) (by rfl) T.isin (by decide +kernel) (pa_cons (pv 1) (pa_cons (pe_glob (v := .ref (He.ga K (nmE 3))) rfl (Er.mg_ 3 (by decide)) rfl) pa_nil))) pa_nil))))))
        (pss_cons (ps_set (i := 2) nd rfl (.inl rfl) (pe_op op_cat (pv 2) (pe_lst (pa_cons (pe_callB (call_isX hz hf) (by rfl) T.isin (by decide +kernel) (pa_cons (pv 1) (pa_cons (pe_glob (v := .ref (He.ga K (nmE 4))) rfl (Er.mg_ 4 (by decide)) rfl) pa_nil)))
            (pa_cons (pe_callB (call_isX hz hf) (by rfl) T.isin (by decide +kernel) (pa_cons (pv 1) (pa_cons (pe_glob (v := .ref (He.ga K (nmE 5))) rfl (Er.mg_ 5 (by decide)) rfl) pa_nil)))
            (pa_cons (pe_callB (call_isX hz hf) (by rfl) T.isin (by decide +kernel) (pa_cons (pv 1) (pa_cons (pe_glob (v := .ref (He.ga K (nmE 6))) rfl (Er.mg_ 6 (by decide)) rfl) pa_nil))) pa_nil))))))
        (pss_cons (ps_set (i := 2) nd rfl (.inl rfl) (pe_op op_cat (pv 2) (pe_lst (pa_cons (pe_callB (call_isX hz hf) (by rfl) T.isin (by decide +kernel) (pa_cons (pv 1) (pa_cons (pe_glob (v := .ref (He.ga K (nmE 7))) rfl (Er.mg_ 7 (by decide)) rfl) pa_nil)))
            (pa_cons (pe_callB (call_isX hz hf) (by rfl) T.isin (by decide +kernel) (pa_cons (pv 1) (pa_cons (pe_glob (v := .ref (He.ga K (nmE 8))) rfl (Er.mg_ 8 (by decide)) rfl) pa_nil)))
            (pa_cons (pe_callB (call_isX hz hf) (by rfl) T.isin (by decide +kernel) (pa_cons (pv 1) (pa_cons (pe_glob (v := .ref (He.ga K (nmE 9))) rfl (Er.mg_ 9 (by decide)) rfl) pa_nil))) pa_nil))))))
        (pss_cons (ps_expr (pe_bmU PySem.F.plainAttrs_list PySem.F.slot_list_append PySem.F.type_list_append mt_append (pv 2) (pa_cons (pe_callB (call_isX hz hf) (by rfl) T.isin (by decide +kernel) (pa_cons (pv 1) (pa_cons (pe_glob (v := .ref (He.ga K (nmE 10))) rfl (Er.mg_ 10 (by decide)) rfl) pa_nil))) pa_nil)))
        (pss_cons (ps_if (PW.pt (pw_or (pt_cmpR op_ne (pe_bmU PySem.F.plainAttrs_list PySem.F.slot_list_count PySem.F.type_list_count mt_cntU (pv 2) (pa_cons pe_bl pa_nil)) pe_int (nomark _))
            (pw_or1 (pt_not (pt_val (pe_callB (call_isX hz hf) (by rfl) T.isin (by decide +kernel) (pa_cons (pv 1) (pa_cons (pe_bltn (v := .ty "ValueError") (by rfl) Er.ve (by decide +kernel) rfl) pa_nil)))))))) (pss_one (ps_ret (pe_tup (pa_cons pe_str (pa_cons pe_int pa_nil))))) pss_nil)
        (pss_cons (ps_set (i := 3) nd rfl (.inl rfl) (pe_lst (pa_cons pe_str (pa_cons pe_str (pa_cons pe_str (pa_cons pe_str (pa_cons pe_str (pa_cons pe_str (pa_cons pe_str (pa_cons pe_str (pa_cons pe_str pa_nil)))))))))))
        (pss_cons (ps_set (i := 4) nd rfl (.inl rfl) (pe_ix ix_listU (pe_op op_cat (pv 3) (pe_lst (pa_cons pe_str (pa_cons pe_str pa_nil)))) (pe_bmU PySem.F.plainAttrs_list PySem.F.slot_list_index PySem.F.type_list_index mt_indexU (pv 2) (pa_cons pe_bl pa_nil)) (fun _ _ => rfl)))
        (pss_cons (ps_if (pt_cmpR op_inU (pv 4) (pe_tup (pa_cons pe_str (pa_cons pe_str pa_nil))) (by with_unfolding_all rfl)) (pss_one (ps_ret (pe_tup (pa_cons (pv 4) (pa_cons (pe_xfX hz hf (pv 1)) pa_nil))))) pss_nil)
        (pss_cons (ps_if (pt_cmpR op_eq (pv 4) pe_str (nomark _)) (pss_one (ps_ret (pe_tup (pa_cons (pv 4) (pa_cons (pe_xfX hz hf (pv 1)) pa_nil))))) pss_nil)
        (pss_one (ps_ret (pe_tup (pa_cons (pv 4) (pa_cons (pe_ifExp (pt_cmpR op_inU (pv 4) (pe_tup (pa_cons pe_str (pa_cons pe_str pa_nil))) (by with_unfolding_all rfl)) (pe_xfX hz hf (pv 1)) pe_int) pa_nil))))))))))))))), ?_⟩
    refine ⟨fl, Fl, el, sp, rfl, hf, hc, L, k _ fun cls d H1 j n he hT kq => ?_⟩
    refine ⟨true, by rw [he.cls]; exact Er.sub j he.lt, fun _ a na => ?_, fun q => nomatch q⟩
    have szl : (1000 : Nat) < sizeLine := by decide
    refine ⟨_, rfl, _, .ref (He.ga K (nmE 0)), _, _, rfl, he.cls, Er.exc j he.lt, fun u r => r, Er.kit j 0 he.lt (by decide), he.xd, ⟨_, rfl, _, .ref (He.ga K (nmE 1)), _, _, rfl, he.cls, Er.exc j he.lt, fun u r => r, Er.kit j 1 he.lt (by decide), he.xd, ⟨_, rfl, _, .ref (He.ga K (nmE 2)), _, _, rfl, he.cls, Er.exc j he.lt, fun u r => r, Er.kit j 2 he.lt (by decide), he.xd, ⟨_, rfl, _, .ref (He.ga K (nmE 3)), _, _, rfl, he.cls, Er.exc j he.lt, fun u r => r, Er.kit j 3 he.lt (by decide), he.xd, (by show 4 ≤ sizeLine; decide), fun l1 n1 => ?_⟩⟩⟩⟩
    have x1 : Ex cs H1 (upd H1 l1 (.lst ([V.bl (decide (j = 0)), V.bl (decide (j = 1)), V.bl (decide (j = 2)), V.bl (decide (j = 3))]))) := Ex.laid hT n1
    have h1 : upd H1 l1 (.lst ([V.bl (decide (j = 0)), V.bl (decide (j = 1)), V.bl (decide (j = 2)), V.bl (decide (j = 3))])) l1 = some (.lst ([V.bl (decide (j = 0)), V.bl (decide (j = 1)), V.bl (decide (j = 2)), V.bl (decide (j = 3))])) := upd_same
    generalize upd H1 l1 (.lst ([V.bl (decide (j = 0)), V.bl (decide (j = 1)), V.bl (decide (j = 2)), V.bl (decide (j = 3))])) = H2 at x1 h1 ⊢
    have he1 := he.ex x1
    refine ⟨_, rfl, ⟨_, rfl, _, .ref (He.ga K (nmE 4)), _, _, rfl, he1.cls, Er.exc j he1.lt, fun u r => r, Er.kit j 4 he1.lt (by decide), he1.xd, ⟨_, rfl, _, .ref (He.ga K (nmE 5)), _, _, rfl, he1.cls, Er.exc j he1.lt, fun u r => r, Er.kit j 5 he1.lt (by decide), he1.xd, ⟨_, rfl, _, .ref (He.ga K (nmE 6)), _, _, rfl, he1.cls, Er.exc j he1.lt, fun u r => r, Er.kit j 6 he1.lt (by decide), he1.xd, (by show 3 ≤ sizeLine; decide), fun l2 n2 => ?_⟩⟩⟩⟩
    have x2 : Ex cs H2 (upd H2 l2 (.lst ([V.bl (decide (j = 4)), V.bl (decide (j = 5)), V.bl (decide (j = 6))]))) := Ex.laid x1.tab n2
    have h2 : upd H2 l2 (.lst ([V.bl (decide (j = 4)), V.bl (decide (j = 5)), V.bl (decide (j = 6))])) l2 = some (.lst ([V.bl (decide (j = 4)), V.bl (decide (j = 5)), V.bl (decide (j = 6))])) := upd_same
    generalize upd H2 l2 (.lst ([V.bl (decide (j = 4)), V.bl (decide (j = 5)), V.bl (decide (j = 6))])) = H3 at x2 h2 ⊢
    refine ⟨l1, l2, _, _, rfl, rfl, x2.lst h1, h2, by show 7 ≤ sizeLine; decide, fun l3 n3 => ?_⟩
    have x3 : Ex cs H3 (upd H3 l3 (.lst ([V.bl (decide (j = 0)), V.bl (decide (j = 1)), V.bl (decide (j = 2)), V.bl (decide (j = 3))] ++ [V.bl (decide (j = 4)), V.bl (decide (j = 5)), V.bl (decide (j = 6))]))) := Ex.laid x2.tab n3
    have h3 : upd H3 l3 (.lst ([V.bl (decide (j = 0)), V.bl (decide (j = 1)), V.bl (decide (j = 2)), V.bl (decide (j = 3))] ++ [V.bl (decide (j = 4)), V.bl (decide (j = 5)), V.bl (decide (j = 6))])) l3 = some (.lst ([V.bl (decide (j = 0)), V.bl (decide (j = 1)), V.bl (decide (j = 2)), V.bl (decide (j = 3))] ++ [V.bl (decide (j = 4)), V.bl (decide (j = 5)), V.bl (decide (j = 6))])) := upd_same
    generalize upd H3 l3 (.lst ([V.bl (decide (j = 0)), V.bl (decide (j = 1)), V.bl (decide (j = 2)), V.bl (decide (j = 3))] ++ [V.bl (decide (j = 4)), V.bl (decide (j = 5)), V.bl (decide (j = 6))])) = H4 at x3 h3 ⊢
    have he3 := (he1.ex x2).ex x3
    refine ⟨_, rfl, ⟨_, rfl, _, .ref (He.ga K (nmE 7)), _, _, rfl, he3.cls, Er.exc j he3.lt, fun u r => r, Er.kit j 7 he3.lt (by decide), he3.xd, ⟨_, rfl, _, .ref (He.ga K (nmE 8)), _, _, rfl, he3.cls, Er.exc j he3.lt, fun u r => r, Er.kit j 8 he3.lt (by decide), he3.xd, ⟨_, rfl, _, .ref (He.ga K (nmE 9)), _, _, rfl, he3.cls, Er.exc j he3.lt, fun u r => r, Er.kit j 9 he3.lt (by decide), he3.xd, (by show 3 ≤ sizeLine; decide), fun l4 n4 => ?_⟩⟩⟩⟩
    have x4 : Ex cs H4 (upd H4 l4 (.lst ([V.bl (decide (j = 7)), V.bl (decide (j = 8)), V.bl (decide (j = 9))]))) := Ex.laid x3.tab n4
    have h4 : upd H4 l4 (.lst ([V.bl (decide (j = 7)), V.bl (decide (j = 8)), V.bl (decide (j = 9))])) l4 = some (.lst ([V.bl (decide (j = 7)), V.bl (decide (j = 8)), V.bl (decide (j = 9))])) := upd_same
    generalize upd H4 l4 (.lst ([V.bl (decide (j = 7)), V.bl (decide (j = 8)), V.bl (decide (j = 9))])) = H5 at x4 h4 ⊢
    refine ⟨l3, l4, _, _, rfl, rfl, x4.lst h3, h4, by show 10 ≤ sizeLine; decide, fun l5 n5 => ?_⟩
    have x5 : Ex cs H5 (upd H5 l5 (.lst (([V.bl (decide (j = 0)), V.bl (decide (j = 1)), V.bl (decide (j = 2)), V.bl (decide (j = 3))] ++ [V.bl (decide (j = 4)), V.bl (decide (j = 5)), V.bl (decide (j = 6))]) ++ [V.bl (decide (j = 7)), V.bl (decide (j = 8)), V.bl (decide (j = 9))]))) := Ex.laid x4.tab n5
    have h5 : upd H5 l5 (.lst (([V.bl (decide (j = 0)), V.bl (decide (j = 1)), V.bl (decide (j = 2)), V.bl (decide (j = 3))] ++ [V.bl (decide (j = 4)), V.bl (decide (j = 5)), V.bl (decide (j = 6))]) ++ [V.bl (decide (j = 7)), V.bl (decide (j = 8)), V.bl (decide (j = 9))])) l5 = some (.lst (([V.bl (decide (j = 0)), V.bl (decide (j = 1)), V.bl (decide (j = 2)), V.bl (decide (j = 3))] ++ [V.bl (decide (j = 4)), V.bl (decide (j = 5)), V.bl (decide (j = 6))]) ++ [V.bl (decide (j = 7)), V.bl (decide (j = 8)), V.bl (decide (j = 9))])) := upd_same
    generalize upd H5 l5 (.lst (([V.bl (decide (j = 0)), V.bl (decide (j = 1)), V.bl (decide (j = 2)), V.bl (decide (j = 3))] ++ [V.bl (decide (j = 4)), V.bl (decide (j = 5)), V.bl (decide (j = 6))]) ++ [V.bl (decide (j = 7)), V.bl (decide (j = 8)), V.bl (decide (j = 9))])) = H6 at x5 h5 ⊢
    have y5 := (((x1.trans x2).trans x3).trans x4).trans x5
    have he5 := he.ex y5
    have n50 : H1 l5 = none := (((x1.trans x2).trans x3).trans x4).old _ n5
    refine ⟨_, rfl, .inl ⟨rfl, _, SqL.of h5⟩, ⟨_, rfl, _, .ref (He.ga K (nmE 10)), _, _, rfl, he5.cls, Er.exc j he5.lt, fun u r => r, Er.kit j 10 he5.lt (by decide), he5.xd, l5, _, _, rfl, rfl, h5, by show 10 < sizeLine; decide, ?_⟩⟩
    have x6 : Ex cs H1 (upd H6 l5 (.lst (kindsR j 11))) := ex_new hT y5 n50
    have h6 : upd H6 l5 (.lst (kindsR j 11)) l5 = some (.lst (kindsR j 11)) := upd_same
    show tSeq _ _ _ _ (upd H6 l5 (.lst (kindsR j 11)))
    generalize upd H6 l5 (.lst (kindsR j 11)) = H7 at x6 h6 ⊢
    have he6 := he.ex x6
    have hj := he.lt
    -- one of them, and a ValueError
    refine ⟨_, rfl, .inl ⟨rfl, _, SqL.of h6⟩, l5, _, .bl true, rfl, rfl, SqL.of h6, rfl, kinds_flat j hj, rfl, false, ?_, iteF ?_⟩
    · rw [kinds_cnt j hj]
      rfl
    refine ⟨_, rfl, _, .type "ValueError", true, _, rfl, he.cls, Er.exc j hj, fun u r => r, Er.val j hj, he6.xd, true, rfl, iteF ?_⟩
    -- its name
    refine ⟨by show 9 ≤ sizeLine; decide, fun l7 n7 => ?_⟩
    have x7 := x6.trans (Ex.laid (o := .lst [V.str "BadPage", V.str "BadStyle", V.str "BadRow", V.str "BadCell", V.str "BadCount", V.str "BadLines", V.str "BadStep", V.str "BadStroke", V.str "BadText"]) x6.tab n7)
    have h7 : upd H7 l7 (.lst [V.str "BadPage", V.str "BadStyle", V.str "BadRow", V.str "BadCell", V.str "BadCount", V.str "BadLines", V.str "BadStep", V.str "BadStroke", V.str "BadText"]) l7 = some (.lst [V.str "BadPage", V.str "BadStyle", V.str "BadRow", V.str "BadCell", V.str "BadCount", V.str "BadLines", V.str "BadStep", V.str "BadStroke", V.str "BadText"]) := upd_same
    have h67 : upd H7 l7 (.lst [V.str "BadPage", V.str "BadStyle", V.str "BadRow", V.str "BadCell", V.str "BadCount", V.str "BadLines", V.str "BadStep", V.str "BadStroke", V.str "BadText"]) l5 = some (.lst (kindsR j 11)) := by rw [upd_ne (ne_of_none h6 n7)]; exact h6
    generalize upd H7 l7 (.lst [V.str "BadPage", V.str "BadStyle", V.str "BadRow", V.str "BadCell", V.str "BadCount", V.str "BadLines", V.str "BadStep", V.str "BadStroke", V.str "BadText"]) = H8 at x7 h7 h67 ⊢
    refine ⟨_, rfl, by show 2 ≤ sizeLine; decide, fun l8 n8 => ?_⟩
    have x8 := x7.trans (Ex.laid (o := .lst [V.str "BadHand", V.str "TooMuch"]) x7.tab n8)
    refine ⟨l7, l8, _, _, rfl, rfl, by rw [upd_ne (ne_of_none h7 n8)]; exact h7, upd_same, by show 11 ≤ sizeLine; decide, fun l9 n9 => ?_⟩
    have x9 := x8.trans (Ex.laid (o := .lst ([V.str "BadPage", V.str "BadStyle", V.str "BadRow", V.str "BadCell", V.str "BadCount", V.str "BadLines", V.str "BadStep", V.str "BadStroke", V.str "BadText"] ++ [V.str "BadHand", V.str "TooMuch"])) x8.tab n9)
    have h9 : upd (upd H8 l8 (.lst [V.str "BadHand", V.str "TooMuch"])) l9 (.lst ([V.str "BadPage", V.str "BadStyle", V.str "BadRow", V.str "BadCell", V.str "BadCount", V.str "BadLines", V.str "BadStep", V.str "BadStroke", V.str "BadText"] ++ [V.str "BadHand", V.str "TooMuch"])) l9 = some (.lst ([V.str "BadPage", V.str "BadStyle", V.str "BadRow", V.str "BadCell", V.str "BadCount", V.str "BadLines", V.str "BadStep", V.str "BadStroke", V.str "BadText"] ++ [V.str "BadHand", V.str "TooMuch"])) := upd_same
    have h69 : upd (upd H8 l8 (.lst [V.str "BadHand", V.str "TooMuch"])) l9 (.lst ([V.str "BadPage", V.str "BadStyle", V.str "BadRow", V.str "BadCell", V.str "BadCount", V.str "BadLines", V.str "BadStep", V.str "BadStroke", V.str "BadText"] ++ [V.str "BadHand", V.str "TooMuch"])) l5 = some (.lst (kindsR j 11)) := by
      have e := upd_ne (H := H8) (o := HO.lst [V.str "BadHand", V.str "TooMuch"]) (ne_of_none h67 n8)
      rw [upd_ne (ne_of_none (e.trans h67) n9), e]
      exact h67
    refine ⟨_, rfl, .inl ⟨rfl, _, SqL.of h69⟩, l5, _, .bl true, j, .bl true, rfl, rfl, SqL.of h69, rfl, kinds_flat j hj, kinds_at j hj, rfl, fun m z hm hz => ?_, ?_⟩
    · rw [kinds_no j hj m hm] at hz
      cases hz
      rfl
    refine names_get j hj (h9.trans rfl) ?_
    generalize upd (upd H8 l8 (.lst [V.str "BadHand", V.str "TooMuch"])) l9 (.lst ([V.str "BadPage", V.str "BadStyle", V.str "BadRow", V.str "BadCell", V.str "BadCount", V.str "BadLines", V.str "BadStep", V.str "BadStroke", V.str "BadText"] ++ [V.str "BadHand", V.str "TooMuch"])) = H9 at x9
    clear h9 h69 h7 h67 n8 n9 n7 x8 x7 h6 he6 h5 n5 x5 he5 n50 y5
    have fin : ∀ {H' : Hp}, Ex cs H1 H' → ∀ T, H' T = none → Q (.ref T) (upd H' T (.tup [.str (nmE j), .int n])) := fun {H'} x T nT => kq T _ (x.trans (Ex.laid x.tab nT)) (x.old _ nT) upd_same
    have fld : ∀ {H' : Hp} {f : Str} {Z : VK}, Ex cs H1 H' → flE j = f → f ≠ "" → Z (.int n) H' → ∃ C : Addr, XfC K C ∧ PySem.W.findIn K (.ref C) f = some none ∧ ∃ v, ([some (V.ref fl), some (V.ref a), some (V.ref l5), some (V.ref l7), some (V.str (nmE j))] : L2.St)[1]? = some (some v) ∧ v = .ref a ∧ cls = .ref C ∧ ∃ (dd : Addr) (fs : List (Str × V)) (v : V), d = some dd ∧ H' dd = some (.xd fs) ∧ fs.lookup f = some v ∧ Z v H' := fun {H' f Z} x e ne q => by
      subst e
      obtain ⟨dd, e1, e2⟩ := (he.ex x).yes ne
      exact ⟨_, xfC_of (Er.exc j hj), Er.fld j hj ne, _, rfl, rfl, he.cls, dd, _, .int n, e1, e2, by simp [List.lookup], q⟩
    refine ⟨_, rfl, by show 2 ≤ sizeLine; decide, fun t1 nt1 => ⟨t1, _, rfl, .inr (SqT.of upd_same), rfl, rfl, _, rfl, ?_⟩⟩
    have xa := x9.trans (Ex.laid (o := .tup [.str "BadPage", .str "BadText"]) x9.tab nt1)
    show if inV (.str (nmE j)) [.str "BadPage", .str "BadText"] = true then _ else _
    rw [word_in j hj]
    by_cases c1 : j = 0 ∨ j = 8
    · rw [decide_eq_true c1]
      refine iteT ⟨_, rfl, ?_⟩
      refine fld xa (by rcases c1 with rfl | rfl <;> rfl) (by decide) ⟨by show 2 ≤ sizeLine; decide, fun T nT => fin xa T nT⟩
    · rw [decide_eq_false c1]
      refine iteF ⟨_, rfl, rfl, _, rfl, ?_⟩
      have e5 : decide (V.str (nmE j) = V.str "BadLines") = decide (j = 5) := by
        rw [← word_eq j hj]
        by_cases q : nmE j = "BadLines"
        · rw [decide_eq_true q, decide_eq_true (by rw [q])]
        · rw [decide_eq_false q, decide_eq_false (fun z => q (by injection z))]
      rw [e5]
      by_cases c2 : j = 5
      · rw [decide_eq_true c2]
        refine iteT ⟨_, rfl, ?_⟩
        refine fld xa (by rw [c2]; rfl) (by decide) ⟨by show 2 ≤ sizeLine; decide, fun T nT => fin xa T nT⟩
      · rw [decide_eq_false c2]
        refine iteF ⟨_, rfl, _, rfl, by show 2 ≤ sizeLine; decide, fun t2 nt2 => ⟨t2, _, rfl, .inr (SqT.of upd_same), rfl, rfl, _, rfl, ?_⟩⟩
        have xb := xa.trans (Ex.laid (o := .tup [.str "BadStep", .str "BadStroke"]) xa.tab nt2)
        show if inV (.str (nmE j)) [.str "BadStep", .str "BadStroke"] = true then _ else _
        rw [word_in2 j hj]
        by_cases c3 : j = 6 ∨ j = 7
        · rw [decide_eq_true c3]
          refine iteT ?_
          refine fld xb (by rcases c3 with rfl | rfl <;> rfl) (by decide) ⟨by show 2 ≤ sizeLine; decide, fun T nT => fin xb T nT⟩
        · rw [decide_eq_false c3]
          have e0 := (he.no (word_fl j hj c1 c2 c3)).1
          subst e0
          exact iteF ⟨by show 2 ≤ sizeLine; decide, fun T nT => fin xb T nT⟩
end
end TG

namespace TG
open PySem PySem.Spec PyProof.Rows L2 NdefX GenW Gx Lv
/-! ### cells told of, and what a lambda caught -/
theorem caught_of {cells : List (Str × Addr)} {N names fr : List Str} {σ : L2.St} {cl : List (Addr × Obj)} {F : NF} {ws : List (Option V)} {H : Hp} (T : ToldC cells N names σ cl) (hF : F.cl = cloFrom cells F.scope.names [])
    (hfr : ∀ y, (y, NameKind.free) ∈ F.scope.names → y ∈ fr) (hrf : ∀ y ∈ fr, (y, NameKind.free) ∈ F.scope.names) (hsub : ∀ y ∈ fr, y ∈ names) (len : ws.length = fr.length) (told : ∀ c o, cl.lookup c = some o → H c = some (cellF o))
    (hw : ∀ (i : Nat) (y : Str) (v : V), fr[i]? = some y → ws[i]? = some (some v) → ∃ j : Nat, N[j]? = some y ∧ σ[j]? = some (some v)) : Caught F fr ws cl H := by
  have at_ : ∀ y c, F.cl.lookup y = some c → y ∈ fr ∧ ∃ o v, cells.lookup y = some c ∧ cl.lookup c = some o ∧ o.data = .cell v := fun y c e => by
    rw [hF] at e
    rcases cloFrom_mem (PySem.mem_of_lookup e) with z | ⟨z, hc⟩
    · cases z
    · have hy := hfr y z
      obtain ⟨c', o, v, e1, e2, e3⟩ := T.all y (hsub y hy)
      rw [e1] at hc
      have hc : c = c' := hc
      subst hc
      exact ⟨hy, o, v, e1, e2, e3⟩
  refine ⟨len, told, fun y c e => ?_, fun x y c e1 e2 => ?_, fun i y e => ?_⟩
  · obtain ⟨_, o, v, _, h2, h3⟩ := at_ y c e
    exact ⟨o, v, h2, h3⟩
  · obtain ⟨_, _, _, h1, _⟩ := at_ x c e1
    obtain ⟨_, _, _, h2, _⟩ := at_ y c e2
    exact T.inj x y c h1 h2
  · have hy : y ∈ fr := List.mem_of_getElem? e
    have hm := cloFrom_has (cells := cells) (acc := []) (hrf y hy)
    have hs : ∃ c, F.cl.lookup y = some c := by
      rw [hF]
      cases q : (cloFrom cells F.scope.names []).lookup y with
      | some c => exact ⟨c, rfl⟩
      | none =>
        have := List.lookup_eq_none_iff.mp q _ hm
        simp at this
    obtain ⟨c, hc⟩ := hs
    obtain ⟨_, o, v0, h1, h2, h3⟩ := at_ y c hc
    refine ⟨c, hc, fun v hv => ?_⟩
    obtain ⟨j, hj1, hj2⟩ := hw i y v e hv
    obtain ⟨u, e1, e2⟩ := T.val y (hsub y hy) c o h1 h2 j v hj1 hj2
    exact ⟨o, u, h2, e1, e2⟩
section
variable {cs : List (Addr × Addr)} {H H' : Hp} {cl : List (Addr × Obj)}
theorem add_at (un : ∀ c o, cl.lookup c = some o → H c = none) {b : Addr} {o : HO} (h : H b = some o) : addC H cl b = some o := by
  cases r : cl.lookup b with
  | some u => rw [un b u r] at h; cases h
  | none => rw [addC_out r]; exact h
theorem del_at (un : ∀ c o, cl.lookup c = some o → H c = none) {b : Addr} {o : HO} (h : H b = some o) : cl.lookup b = none := by
  cases r : cl.lookup b with
  | some u => rw [un b u r] at h; cases h
  | none => rfl
theorem add_none {D : Addr} (h : addC H cl D = none) : cl.lookup D = none ∧ H D = none := by
  cases r : cl.lookup D with
  | some u => rw [addC_in r] at h; cases h
  | none => rw [addC_out r] at h; exact ⟨rfl, h⟩
theorem del_upd_add (un : ∀ c o, cl.lookup c = some o → H c = none) {D : Addr} {o : HO} (hD : cl.lookup D = none) : delC (upd (addC H cl) D o) cl = upd H D o := by
  funext b
  cases r : cl.lookup b with
  | some u =>
    rw [delC_in r, upd_ne (fun z => by rw [z, hD] at r; cases r)]
    exact (un b u r).symm
  | none =>
    rw [delC_out r]
    by_cases hb : b = D
    · rw [hb, upd_same, upd_same]
    · rw [upd_ne hb, upd_ne hb, addC_out r]
theorem tabs_add (un : ∀ c o, cl.lookup c = some o → H c = none) (t : Tabs cs H) : Tabs cs (addC H cl) := fun p hp => by
  obtain ⟨ps, h1, h2⟩ := t p hp
  exact ⟨ps, add_at un h1, h2⟩
/-- what came of a heap with the cells told, the cells untold again -/
theorem ex_del (un : ∀ c o, cl.lookup c = some o → H c = none) (told : ∀ c o, cl.lookup c = some o → H' c = some (cellF o)) (x : Ex cs (addC H cl) H') : Ex cs H (delC H' cl) := by
  refine ⟨fun b o h n => ?_, fun p hp => ?_, fun b h => ?_, fun b o h n => ?_⟩
  · rw [delC_out (del_at un h)]
    exact x.ext b o (add_at un h) n
  · obtain ⟨ps, h1, h2⟩ := x.tab p hp
    have r : cl.lookup p.2 = none := by
      cases r : cl.lookup p.2 with
      | none => rfl
      | some u => rw [told _ u r] at h1; cases h1
    exact ⟨ps, by rw [delC_out r]; exact h1, h2⟩
  · cases r : cl.lookup b with
    | some u => exact un b u r
    | none =>
      rw [delC_out r] at h
      exact (add_none (x.old b h)).2
  · rw [delC_out (del_at un h)]
    exact x.oth b o (add_at un h) n
end
end TG

namespace TG
open PySem PySem.Spec PyProof.Rows L2 Gx
theorem fold_one (c : Nat) : ∀ (n : Nat) (acc : Array Nat), (List.replicate n (#[c] : Array Nat)).foldl (fun a b => a ++ b) acc = acc ++ (List.replicate n c).toArray
  | 0, acc => by simp
  | n + 1, acc => by
    rw [List.replicate_succ, List.foldl_cons, fold_one c n]
    apply Array.toList_inj.mp
    simp [List.replicate_succ]
def repS (c : Nat) (n : Nat) : Str := ⟨(List.replicate n c).toArray⟩
theorem cl_repS (c n : Nat) : cl (repS c n) = List.replicate n c := by simp [cl, repS]
section
variable {X : Cx}
def rRepS : V → V → Hp → VK → Prop := fun x y H Q => ∃ (c : Nat) (n : Int), x = .str ⟨#[c]⟩ ∧ y = .int n ∧ 0 ≤ n ∧ n ≤ 1000 ∧ Q (.str (repS c n.toNat)) H
theorem op_repS : OpR X (binaryOp .Mult) rRepS := by
  intro pins s σ H x y v u Q I rx ry h
  obtain ⟨c, n, rfl, rfl, h0, h1, q⟩ := h
  obtain ⟨t, rfl⟩ := rx
  obtain ⟨t', rfl⟩ := ry
  have hs : ((⟨#[c]⟩ : Str).length) = 1 := rfl
  refine PySem.P.mul_str ?_ (fun _ _ => ?_) (fun _ _ => ?_) ?_
  · rw [decide_eq_false (by omega), decide_eq_false (by omega)]
    rfl
  · rw [hs]
    have : (1 : Int) ≤ (2 ^ 63 - 1) / n := Int.le_ediv_of_mul_le (by omega) (by omega)
    omega
  · rw [hs, Nat.one_mul]
    have sz : (1000 : Nat) < sizeLine := by decide
    exact decide_eq_false (by omega)
  · by_cases e : n < 1
    · rw [if_pos e]
      have e0 : n = 0 := by omega
      subst e0
      exact ⟨by decide, .str (repS c (0 : Int).toNat), H, I.tok _, ⟨_, rfl⟩, q⟩
    · rw [if_neg e]
      by_cases e1 : n = 1
      · subst e1
        rw [if_pos (by rfl)]
        exact (⟨.str (repS c (1 : Int).toNat), H, I, ⟨_, rfl⟩, q⟩ : EP X pins σ Q _ _)
      · rw [if_neg (by rw [hs]; simp [e1])]
        have hf : (⟨(List.replicate n.toNat (#[c] : Array Nat)).foldl (· ++ ·) #[]⟩ : Str) = repS c n.toNat := by
          unfold repS
          rw [fold_one]
          simp
        show Made.post (.str ⟨(List.replicate n.toNat (#[c] : Array Nat)).foldl (· ++ ·) #[]⟩) _ _
        rw [hf]
        have sz : (1000 : Nat) < sizeLine := by decide
        have hl : (repS c n.toNat).length = n.toNat := by unfold repS; simp [Str.length]
        exact ⟨by omega, .str (repS c n.toNat), H, I.tok _, ⟨_, rfl⟩, q⟩
end
end TG

namespace TG
open PySem PySem.Spec PyProof.Rows L2 Gx
/-! ### a short text, turned round -/
def revS (z : Str) : Str := ⟨(List.filterMap (fun i => z.cps[i]?) (Builtin.Str.strSliceIndices none none (-1) z.length)).toArray⟩
theorem rev_idx : ∀ n, n ≤ 2 → (Builtin.Str.strSliceIndices none none (-1) n).length ≤ 2 := by
  intro n h
  have : n = 0 ∨ n = 1 ∨ n = 2 := by omega
  rcases this with rfl | rfl | rfl <;> decide +kernel
theorem revS_len {z : Str} (h : z.length ≤ 2) : (revS z).length ≤ 2 := by
  show (List.filterMap (fun i => z.cps[i]?) (Builtin.Str.strSliceIndices none none (-1) z.length)).toArray.size ≤ 2
  rw [List.size_toArray]
  exact Nat.le_trans (List.length_filterMap_le ..) (rev_idx _ h)
theorem revS_mem {z : Str} {c : Nat} (h : c ∈ cl (revS z)) : c ∈ cl z := by
  have h : c ∈ (List.filterMap (fun i => z.cps[i]?) (Builtin.Str.strSliceIndices none none (-1) z.length)) := by
    simpa [cl, revS] using h
  obtain ⟨i, _, hi⟩ := List.mem_filterMap.mp h
  have := Array.mem_of_getElem? hi
  simpa [cl] using this
def tRevS (te : TE) : TE := fun σ H Q => te σ H fun x H1 => ∃ z : Str, x = .str z ∧ z.length ≤ 2 ∧ Q (.str (revS z)) H1
theorem pe_revS {X : Cx} {e : Expr} {te : TE} {k : Nat} {p1 p2 p3 pos : Pos} (he : PE X e te) : PE X (.Subscript e (.Slice none none (some (.UnaryOp .USub (.Constant (.int 1) k p1) p2)) p3) pos) (tRevS te) := by
  refine ⟨fun pins s σ H Q I h => ?_⟩
  refine PyProof.Rows.Subscript_ (thn (he.run pins s σ H (fun x H1 => ∃ z : Str, x = .str z ∧ z.length ≤ 2 ∧ Q (.str (revS z)) H1) I h) fun v s1 ⟨x, H1, I1, r1, z, ex, hz, q⟩ => ?_)
  subst ex
  obtain ⟨t, rfl⟩ := r1
  refine wpAny_Slice (thn (po_none.run pins s1 σ H1 (fun o H2 => o = none ∧ H2 = H1) I1 ⟨rfl, rfl⟩) fun vl s2 ⟨o, H2, I2, pl, eo, e2⟩ => ?_)
  subst eo
  subst e2
  refine thn (po_none.run pins s2 σ H2 (fun o H3 => o = none ∧ H3 = H2) I2 ⟨rfl, rfl⟩) fun vu s3 ⟨o, H3, I3, pu, eo, e3⟩ => ?_
  subst eo
  subst e3
  refine thn ((po_some (pe_un un_neg pe_int)).run pins s3 σ H3 (fun o H4 => o = some (-1) ∧ H4 = H3) I3 ⟨1, rfl, -1, rfl, rfl, rfl⟩) fun vs s4 ⟨o, H4, I4, ps, eo, e4⟩ => ?_
  subst eo
  subst e4
  cases pl
  cases pu
  generalize hm : (some (-1) : Option Int) = st at ps
  cases ps with
  | none => cases hm
  | int i t' =>
    injection hm with hm
    subst hm
    have I5 := I4.kept (t' := s4.toks) (h' := s4.heap.push { cls := Value.type "slice", data := Data.fields #[Value.none, Value.none, Value.int (-1) t'] }) fun b ob q => Heap.get?_push_of_some _ q
    refine subscriptTail_ops (T := "str") (ops := [Value.str z t, Value.ref s4.heap.objs.size]) (typeIs_str _ _ _) PySem.F.slot_str_getitem.lookup (wpAny_getItem_str_slice (l := none) (u := none) (st := some (-1, t')) ⟨_, Heap.get?_push_size s4.1 rfl, rfl, rfl⟩ rfl ?_) rfl (fun _ => by cases e <;> rfl)
    have e : sliceMade z t none none (some (-1, t')) = .str (revS z) := rfl
    rw [e]
    have sz : (1000 : Nat) < sizeLine := by decide
    have := revS_len hz
    exact ⟨by omega, .str (revS z), H4, I5.tok _, ⟨_, rfl⟩, q⟩
end TG

namespace TG
open PySem PySem.Spec PyProof.Rows L2 Gx
/-! ### texts of pages -/
abbrev tabS : Str := "\t"
abbrev lineS : Str := "\n"
def rowT (r : List Str) : Str := Txt.join tabS r
def pageT (rows : List (List Str)) : Str := Txt.join lineS (rows.map rowT)
theorem cl_tabS : cl tabS = [9] := by decide +kernel
theorem cl_lineS : cl lineS = [10] := by decide +kernel
theorem cl_joinL (y : Str) (ps : List Str) : cl (Txt.join y ps) = TL.joinL (cl y) (ps.map cl) := by
  rw [TL.join_eq]
  exact TL.tl_join y ps
theorem joinL_mem (S : List Nat) : ∀ (ps : List (List Nat)) (c : Nat), c ∈ TL.joinL S ps → c ∈ S ∨ ∃ p ∈ ps, c ∈ p
  | [], c, h => by cases h
  | [p], c, h => .inr ⟨p, by simp, h⟩
  | p :: q :: r, c, h => by
    have h : c ∈ p ++ (S ++ TL.joinL S (q :: r)) := h
    rcases List.mem_append.mp h with h | h
    · exact .inr ⟨p, by simp, h⟩
    rcases List.mem_append.mp h with h | h
    · exact .inl h
    rcases joinL_mem S (q :: r) c h with h | ⟨x, hx, hc⟩
    · exact .inl h
    · exact .inr ⟨x, by simp at hx ⊢; exact .inr hx, hc⟩
theorem joinL_len (S : List Nat) (m : Nat) : ∀ (ps : List (List Nat)), (∀ p ∈ ps, p.length ≤ m) → (TL.joinL S ps).length ≤ ps.length * (m + S.length)
  | [], _ => Nat.zero_le _
  | [p], h => by
    have := h p (by simp)
    show p.length ≤ 1 * (m + S.length)
    omega
  | p :: q :: r, h => by
    have h1 := h p (by simp)
    have h2 := joinL_len S m (q :: r) fun x hx => h x (by simp at hx ⊢; exact .inr hx)
    show (p ++ (S ++ TL.joinL S (q :: r))).length ≤ ((q :: r).length + 1) * (m + S.length)
    rw [List.length_append, List.length_append, Nat.add_mul]
    omega
theorem rowT_sg {r : List Str} (h : RowOk r) : ∀ c ∈ cl (rowT r), c = 9 ∨ SgOk c := by
  intro c hc
  unfold rowT at hc
  rw [cl_joinL, cl_tabS] at hc
  rcases joinL_mem _ _ _ hc with h1 | ⟨p, hp, h1⟩
  · exact .inl (by simpa using h1)
  · obtain ⟨z, hz, rfl⟩ := List.mem_map.mp hp
    exact .inr ((h.3 z hz).2 c h1)
theorem rowT_len {r : List Str} (h : RowOk r) : (rowT r).length ≤ 66 := by
  rw [len_cl]
  unfold rowT
  rw [cl_joinL]
  have := joinL_len (cl tabS) 10 (r.map cl) fun p hp => by
    obtain ⟨z, hz, rfl⟩ := List.mem_map.mp hp
    have := (h.3 z hz).1
    rw [← len_cl]
    exact this
  rw [List.length_map, cl_tabS, show ([9] : List Nat).length = 1 from rfl] at this
  rw [cl_tabS]
  have := h.2
  omega
theorem pageT_len {rows : List (List Str)} (h : PgOk rows) : (pageT rows).length ≤ 2010 := by
  rw [len_cl]
  unfold pageT
  rw [cl_joinL]
  have := joinL_len (cl lineS) 66 ((rows.map rowT).map cl) fun p hp => by
    obtain ⟨z, hz, rfl⟩ := List.mem_map.mp hp
    obtain ⟨r, hr, rfl⟩ := List.mem_map.mp hz
    rw [← len_cl]
    exact rowT_len (h.rows r hr)
  rw [List.length_map, List.length_map, cl_lineS, show ([10] : List Nat).length = 1 from rfl] at this
  rw [cl_lineS]
  have := h.len
  omega
theorem split_row {r : List Str} (h : RowOk r) : Txt.split (rowT r) tabS = r := by
  refine TL.split_join (s := 9) (S := []) cl_tabS (by decide +kernel) ?_ fun p hp q => ?_
  · intro e
    have := h.1
    rw [e] at this
    simp at this
  · have q : 9 ∈ cl p := q
    have := (h.3 p hp).2 9 q
    unfold SgOk at this
    omega
theorem split_page {rows : List (List Str)} (h : PgOk rows) : Txt.split (pageT rows) lineS = rows.map rowT := by
  refine TL.split_join (s := 10) (S := []) cl_lineS (by decide +kernel) ?_ fun p hp q => ?_
  · intro e
    have := h.pos
    have e2 := congrArg List.length e
    rw [List.length_map] at e2
    simp at e2
    rw [e2] at this
    simp at this
  · obtain ⟨r, hr, rfl⟩ := List.mem_map.mp hp
    have q : 10 ∈ cl (rowT r) := q
    rcases rowT_sg (h.rows r hr) 10 q with e | e
    · omega
    · unfold SgOk at e
      omega
theorem kind_min1 (y : Str) (hy : Builtin.Str.strKind y = 1) (x : Str) : ¬ Builtin.Str.strKind x < Builtin.Str.strKind y := by
  rw [hy]
  unfold Builtin.Str.strKind
  split
  · decide
  · split <;> decide
theorem splLenT (S : List Nat) : ∀ (l acc : List Nat) (k : Nat) (p : List Nat), p ∈ TL.spl S k acc l → p.length ≤ acc.length + l.length
  | [], acc, k, p, h => by
    unfold TL.spl at h
    rw [List.mem_singleton] at h
    rw [h]
    exact Nat.le_add_right _ _
  | c :: r, acc, 0, p, h => by
    unfold TL.spl at h
    rw [List.length_cons]
    split at h
    · rcases List.mem_cons.mp h with z | z
      · rw [z]; omega
      · have := splLenT S r [] _ p z
        simp at this
        omega
    · have := splLenT S r _ _ p h
      rw [List.length_append, List.length_singleton] at this
      omega
  | c :: r, acc, k + 1, p, h => by
    unfold TL.spl at h
    have := splLenT S r _ _ p h
    rw [List.length_cons]
    omega
theorem split_clL (z y : Str) (h0 : cl y ≠ []) (hy : Builtin.Str.strKind y = 1) : (Txt.split z y).map cl = TL.spl (cl y) 0 [] (cl z) :=
  TL.split_spl z y h0 (kind_min1 y hy z)
theorem split_pieceL {z y p : Str} (h0 : cl y ≠ []) (hy : Builtin.Str.strKind y = 1) (h : p ∈ Txt.split z y) : p.length ≤ z.length := by
  have h2 : cl p ∈ TL.spl (cl y) 0 [] (cl z) := by rw [← split_clL z y h0 hy]; exact List.mem_map_of_mem h
  have := splLenT (cl y) _ _ _ _ h2
  simpa [cl, Str.length] using this
theorem kind_line : Builtin.Str.strKind lineS = 1 := by decide +kernel
theorem kind_tab : Builtin.Str.strKind tabS = 1 := by decide +kernel
/-- the rows of a text -/
def rowsT (z : Str) : List (List Str) := (Txt.split z lineS).map fun l => Txt.split l tabS
theorem rowsT_page {rows : List (List Str)} (h : PgOk rows) : rowsT (pageT rows) = rows := by
  unfold rowsT
  rw [split_page h, List.map_map]
  conv => rhs; rw [← List.map_id rows]
  apply List.map_congr_left
  intro r hr
  exact split_row (h.rows r hr)
structure RowsAt (ps : List Addr) (rows : List (List Str)) (H : Hp) : Prop where
  len : ps.length = rows.length
  row : ∀ (i : Nat) (q : Addr) (z : List Str), ps[i]? = some q → rows[i]? = some z → H q = some (.tup (sV z))
def rTupT (K : PySem.W.Frag) : List V → Hp → VK → Prop := fun xs H Q => ∃ p ys, xs = [V.ref p] ∧ ((SqL K H p ys ∧ ∀ l, H l = none → Q (.ref l) (upd H l (.tup ys))) ∨ (SqT K H p ys ∧ Q (.ref p) H))
def rJoin (K : PySem.W.Frag) : V → List V → Hp → VK → Prop := fun x xs H Q => ∃ a p, ∃ ys : List Str, x = .str a ∧ xs = [.ref p] ∧ (SqL K H p (ys.map V.str) ∨ SqT K H p (ys.map V.str)) ∧ (ys.map (·.length)).sum + ys.length * a.length ≤ 16777216 ∧ Q (.str (Txt.join a ys)) H
section
variable {P : Program} {w : World} {K : PySem.W.Frag} {mg : Str → Option Value} {base : Heap} {cs : List (Addr × Addr)}
def spRowsOf (cs : List (Addr × Addr)) : Sp := fun vs H Q _ => ∃ z : Str, vs = [.str z] ∧ Tabs cs H ∧ z.length ≤ 1000000 ∧
  ∀ (r : Addr) (ps : List Addr) (H' : Hp), Ex cs H H' → H r = none → H' r = some (.lst (ps.map V.ref)) → RowsAt ps (rowsT z) H' → Q (.ref r) H'
theorem sc_rowsof : FnScope ["text", "line"] ["text"] (defScope s_rows_of) := ⟨rfl, rfl, rfl, by decide +kernel, rfl, by decide +kernel, by decide +kernel⟩
theorem ok_rowsof {f : Addr} {fd : FuncData} (T : Txt mg) (eT : ∃ t, mg "TAB" = some (.str tabS t)) (eL : ∃ t, mg "LINE_END" = some (.str lineS t)) (F : Fun K "rows_of" "rows_of" s_rows_of f fd) : FnOk P w K mg base CX0 1 f fd ["text"] (spRowsOf cs) := by
  refine F.ok sc_rowsof (fun vs H Q E h => ?_) (fun cdv A outer s H vs Q E hr h => ?_)
  · obtain ⟨z, rfl, _⟩ := h
    rfl
  · obtain ⟨z, rfl, hT, hz2, k⟩ := h
    have nd := sc_rowsof.nd
    have szl : (10000000 : Nat) < sizeLine := by decide
    obtain ⟨tt, eT⟩ := eT
    obtain ⟨tl, eL⟩ := eL
    refine ⟨_, pss_one (ps_ret (pe_lc (own := [("line", 1)]) (g := gName 1) (tt := tYes) rfl nd (pi_list (pe_split (pv 0) (pe_glob (v := .str lineS) rfl eL ⟨_, rfl⟩))) (blkOk_by (own := [("line", 1)]) (N := ["text", "line"]) (sc := defScope s_rows_of) (by decide +kernel))
        (fun _ _ _ _ _ => pg_name (i := 1) nd rfl (Or.inl rfl)) (fun _ _ _ _ _ => pts_nil) (fun s1 H1 C1 cl1 fp1 => pe_callTy (T := "tuple") (r := rTupT K) call_tuple_of (by rfl) T.tuple (by decide +kernel) (pa_cons (pe_split (to := tVar 1) (te := tC (.str tabS)) (pv 1) (pe_glob (v := .str tabS) (by rfl) eT ⟨_, rfl⟩)) pa_nil)))), ?_⟩
    have hlen : (Txt.split z lineS).length ≤ 1000002 := Nat.le_trans (PyProof.Rows.split_le z _) (by omega)
    refine ⟨_, rfl, ⟨_, rfl⟩, _, _, rfl, rfl, by decide +kernel, by omega, fun p np => ?_⟩
    have x1 := Ex.laid (o := .lst ((Txt.split z lineS).map V.str)) hT np
    have hp1 : upd H p (.lst ((Txt.split z lineS).map V.str)) p = some (.lst (sV (Txt.split z lineS))) := upd_same
    generalize upd H p (.lst ((Txt.split z lineS).map V.str)) = H1 at x1 hp1 ⊢
    refine ⟨p, rfl, ⟨_, SqL.of hp1⟩, fun D nD => lc_list (xs := sV (Txt.split z lineS)) (fun i H' => Ex cs H1 H' ∧ ∃ ps : List Addr, H' D = some (.lst (ps.map V.ref)) ∧ ps.length = i ∧ ∀ (j : Nat) (q : Addr) (z' : Str), ps[j]? = some q → (Txt.split z lineS)[j]? = some z' → H' q = some (.tup (sV (Txt.split z' tabS))))
      ⟨Ex.laid x1.tab nD, [], upd_same, rfl, fun j q z h => by cases h⟩ (fun i H' _ x => x.1.sqL (SqL.of hp1)) ?_ ?_⟩
    · rintro i v H4 hv ⟨x4, ps, hD4, hpl, hps⟩
      obtain ⟨y, hy, rfl⟩ := get_map hv
      have hi := (List.getElem?_eq_some_iff.mp hy).1
      have hyl := split_pieceL (by rw [cl_lineS]; decide) kind_line (List.mem_of_getElem? hy)
      refine ⟨rfl, _, rfl, ⟨_, rfl⟩, _, _, rfl, rfl, by decide +kernel, by omega, fun u nu => ⟨u, _, rfl, .inl ⟨SqL.of upd_same, fun t nt => ?_⟩⟩⟩
      have x5 := x4.trans (Ex.laid (o := .lst ((Txt.split y tabS).map V.str)) x4.tab nu)
      have x6 := x5.trans (Ex.laid (o := .tup ((Txt.split y tabS).map V.str)) x5.tab nt)
      have x46 := (Ex.laid (o := .lst ((Txt.split y tabS).map V.str)) x4.tab nu).trans (Ex.laid (o := .tup ((Txt.split y tabS).map V.str)) x5.tab nt)
      have ht : upd (upd H4 u (.lst ((Txt.split y tabS).map V.str))) t (.tup ((Txt.split y tabS).map V.str)) t = some (.tup (sV (Txt.split y tabS))) := upd_same
      have nt4 : H4 t = none := (Ex.laid (o := .lst ((Txt.split y tabS).map V.str)) x4.tab nu).old _ nt
      generalize upd (upd H4 u (.lst ((Txt.split y tabS).map V.str))) t (.tup ((Txt.split y tabS).map V.str)) = H6 at x6 x46 ht ⊢
      have hD6 := x46.lst hD4
      have nDt : D ≠ t := fun e => by rw [e, nt4] at hD4; cases hD4
      refine ⟨_, hD6, by rw [List.length_map]; omega, ex_new x1.tab x6 nD, ps ++ [t], ?_, by rw [List.length_append, hpl]; rfl, fun j q z2 h1 h2 => ?_⟩
      · rw [upd_same, List.map_append]; rfl
      · by_cases hj : j < ps.length
        · rw [List.getElem?_append_left hj] at h1
          have h0 := x46.tup (hps j q z2 h1 h2)
          rw [upd_ne (fun e => by rw [e, hD6] at h0; cases h0)]
          exact h0
        · have hl2 := (List.getElem?_eq_some_iff.mp h1).1
          rw [List.length_append, List.length_singleton] at hl2
          have ej : j = i := by omega
          subst ej
          rw [List.getElem?_append_right (by omega), hpl, Nat.sub_self] at h1
          cases h1
          rw [hy] at h2
          cases h2
          rw [upd_ne nDt.symm]
          exact ht
    · rintro H4 ⟨x4, ps, hD4, hpl, hps⟩
      rw [List.length_map] at hpl
      refine k D ps H4 (x1.trans x4) (x1.old _ nD) hD4 ⟨by unfold rowsT; rw [List.length_map]; exact hpl, fun i q z2 h1 h2 => ?_⟩
      unfold rowsT at h2
      obtain ⟨l, hl, rfl⟩ := get_map h2
      exact hps i q l h1 hl
/-! ### written -/
def spWrit (K : PySem.W.Frag) (cs : List (Addr × Addr)) : Sp := fun vs H Q _ => ∃ (a : Addr) (as : List Addr) (rows : List (List Str)), vs = [.ref a] ∧ Tabs cs H ∧ PageAt K H a as rows ∧ PgOk rows ∧ ∀ H', Ex cs H H' → Q (.str (pageT rows)) H'
theorem sumLeT (m : Nat) : ∀ (ys : List Str), (∀ y ∈ ys, y.length ≤ m) → (ys.map (·.length)).sum ≤ ys.length * m
  | [], _ => Nat.zero_le _
  | y :: ys, h => by
    have h1 := h y (by simp)
    have h2 := sumLeT m ys fun x hx => h x (by simp [hx])
    rw [List.map_cons, List.sum_cons, List.length_cons, Nat.add_mul]
    omega
theorem sc_writ : FnScope ["page", "row"] ["page"] (defScope s_written) := ⟨rfl, rfl, rfl, by decide +kernel, rfl, by decide +kernel, by decide +kernel⟩
theorem ok_writ {f g1 : Addr} {fd fd1 : FuncData} (eT : ∃ t, mg "TAB" = some (.str tabS t)) (eL : ∃ t, mg "LINE_END" = some (.str lineS t)) (F : Fun K "written" "written" s_written f fd)
    (G1 : FnOk P w K mg base CX0 11 g1 fd1 ["page"] (spCheck K cs)) (k1 : PySem.W.keepIn K (.ref g1) = true) (b1 : Binds K fd1 ["page"] []) (m1 : mg "check_page" = some (.ref g1)) : FnOk P w K mg base CX0 12 f fd ["page"] (spWrit K cs) := by
  refine F.ok sc_writ (fun vs H Q E h => ?_) (fun cdv A outer s H vs Q E hr h => ?_)
  · obtain ⟨a, as, rows, rfl, _⟩ := h
    rfl
  · obtain ⟨a, as, rows, rfl, hT, hP, hO, k⟩ := h
    have nd := sc_writ.nd
    obtain ⟨tt, eT⟩ := eT
    obtain ⟨tl, eL⟩ := eL
    have szl : (1000 : Nat) < sizeLine := by decide
    refine ⟨_, pss_cons (ps_expr (pe_call G1 hr (by rfl) m1 k1 b1 .nil pass0 (pa_cons (pv 0) pa_nil))) (pss_one (ps_ret (pe_join (pe_glob (v := .str lineS) rfl eL ⟨_, rfl⟩)
      (pe_lc (own := [("row", 1)]) (g := gName 1) (tt := tYes) rfl nd (pi_list (pv 0)) (blkOk_by (own := [("row", 1)]) (N := ["page", "row"]) (sc := defScope s_written) (by decide +kernel)) (fun _ _ _ _ _ => pg_name (i := 1) nd rfl (Or.inl rfl)) (fun _ _ _ _ _ => pts_nil)
        (fun s1 H1 C1 cl1 fp1 => show PE _ _ (tM1 (rJoin K) (tC (.str tabS)) (tVar 1)) from pe_join (pe_glob (v := .str tabS) (by rfl) eT ⟨_, rfl⟩) (pv 1)))))), ?_⟩
    have hrl : ∀ r ∈ rows, r.length ≤ 6 ∧ ∀ z ∈ r, z.length ≤ 10 := fun r hr => ⟨(hO.rows r hr).2, fun z hz => ((hO.rows r hr).3 z hz).1⟩
    have hl := hO.len
    refine ⟨_, rfl, a, as, rows, rfl, hT, hP, hO, fun H1 x1 => ⟨⟨_, rfl⟩, _, rfl, a, rfl, ⟨_, x1.sqL hP.lst⟩, fun D nD => lc_list (xs := as.map V.ref) (fun i H' => Ex cs H1 H' ∧ H' D = some (.lst (sV ((rows.map rowT).take i))))
      ⟨Ex.laid x1.tab nD, upd_same⟩ (fun i H' _ x => x.1.sqL (x1.sqL hP.lst)) ?_ ?_⟩⟩
    · rintro i v H4 hv ⟨x4, hD4⟩
      obtain ⟨q, hq, rfl⟩ := get_map hv
      have hi := (List.getElem?_eq_some_iff.mp hq).1
      obtain ⟨r, hr2⟩ := getP (xs := rows) (i := i) (by rw [← hP.len]; exact hi)
      obtain ⟨l6, l10⟩ := hrl r (List.mem_of_getElem? hr2)
      have hs := sumLeT 10 r l10
      have e1 : tabS.length = 1 := by decide +kernel
      refine ⟨rfl, ⟨_, rfl⟩, _, rfl, _, q, r, rfl, rfl, .inr ((x1.trans x4).sqT (hP.row i q r hq hr2)), by rw [e1]; omega, _, hD4, ?_, ex_new x1.tab x4 nD, ?_⟩
      · rw [List.length_map, List.length_take]; rw [List.length_map]; have := hP.len; omega
      · have e : (rows.map rowT)[i]? = some (rowT r) := by
          rw [List.getElem?_map, hr2]
          rfl
        rw [upd_same, List.take_add_one, e]
        simp [sV]
        rfl
    · rintro H4 ⟨x4, hD4⟩
      have e2 : (rows.map rowT).take (as.map V.ref).length = rows.map rowT := List.take_of_length_le (by rw [List.length_map, List.length_map, hP.len]; exact Nat.le_refl _)
      rw [e2] at hD4
      have hs := sumLeT 66 (rows.map rowT) fun y hy => by
        obtain ⟨r, hr, rfl⟩ := List.mem_map.mp hy
        exact rowT_len (hO.rows r hr)
      rw [List.length_map] at hs
      have e1 : lineS.length = 1 := by decide +kernel
      exact ⟨_, D, rows.map rowT, rfl, rfl, .inl (SqL.of hD4), by rw [e1, List.length_map]; omega, k H4 (x1.trans x4)⟩
/-! ### read -/
def spRead (K : PySem.W.Frag) (cs : List (Addr × Addr)) : Sp := fun vs H Q _ => ∃ (z : Str) (rows : List (List Str)), vs = [.str z] ∧ Tabs cs H ∧ z.length ≤ 1000000 ∧ rowsT z = rows ∧ PgOk rows ∧
  ∀ (r : Addr) (ps : List Addr) (H' : Hp), Ex cs H H' → H r = none → H' r = some (.lst (ps.map V.ref)) → RowsAt ps rows H' → Q (.ref r) H'
theorem sc_read : FnScope ["text", "rows", "number"] ["text"] (defScope s_read) := ⟨rfl, rfl, rfl, by decide +kernel, rfl, by decide +kernel, by decide +kernel⟩
theorem ok_read {f g1 g2 : Addr} {fd fd1 fd2 : FuncData} (T : Txt mg) (F : Fun K "read" "read" s_read f fd)
    (G1 : FnOk P w K mg base CX0 1 g1 fd1 ["text"] (spRowsOf cs)) (k1 : PySem.W.keepIn K (.ref g1) = true) (b1 : Binds K fd1 ["text"] []) (m1 : mg "rows_of" = some (.ref g1))
    (G2 : FnOk P w K mg base CX0 10 g2 fd2 ["rows"] (spCheck K cs)) (k2 : PySem.W.keepIn K (.ref g2) = true) (b2 : Binds K fd2 ["rows"] []) (m2 : mg "first_misfit" = some (.ref g2)) : FnOk P w K mg base CX0 11 f fd ["text"] (spRead K cs) := by
  refine F.ok sc_read (fun vs H Q E h => ?_) (fun cdv A outer s H vs Q E hr h => ?_)
  · obtain ⟨z, rows, rfl, _⟩ := h
    rfl
  · obtain ⟨z, rows, rfl, hT, hz, hR, hO, k⟩ := h
    have nd := sc_read.nd
    have r1 : Room 1 _ := hr.mono (by decide)
    refine ⟨_, pss_cons (ps_if (pt_not (pt_val (pe_callB call_isi (by rfl) T.isin (by decide +kernel) (pa_cons (pv 0) (pa_cons (pe_bltn (v := .ty "str") (by rfl) T.str (by decide +kernel) rfl) pa_nil))))) (pss_one ps_never) pss_nil)
      (pss_cons (ps_set (i := 1) nd rfl (.inl rfl) (pe_call G1 r1 (by rfl) m1 k1 b1 .nil pass0 (pa_cons (pv 0) pa_nil)))
      (pss_cons (ps_set (i := 2) nd rfl (.inl rfl) (pe_call G2 hr (by rfl) m2 k2 b2 .nil pass0 (pa_cons (pv 1) pa_nil)))
      (pss_cons (ps_if (pt_cmpR op_notN (pv 2) pe_non (nomark _)) (pss_one ps_never) pss_nil)
      (pss_one (ps_ret (pv 1)))))), ?_⟩
    refine ⟨_, rfl, _, _, _, _, true, rfl, .ty _, .base (.str z), kit_ty (by decide +kernel), true, rfl, iteF ⟨_, rfl, z, rfl, hT, hz, fun r ps H1 x1 nr hr1 hps => ?_⟩⟩
    rw [hR] at hps
    have PA : PageAt K H1 r ps rows := ⟨SqL.of hr1, hps.len, fun i q z h1 h2 => .inl (.inl (hps.row i q z h1 h2))⟩
    refine ⟨_, rfl, r, ps, rows, rfl, x1.tab, PA, hO, fun H2 x2 => ⟨_, rfl, rfl, false, rfl, iteF ⟨_, rfl, ?_⟩⟩⟩
    exact k r ps H2 (x1.trans x2) nr (x2.lst hr1) ⟨hps.len, fun i q z h1 h2 => x2.tup (hps.row i q z h1 h2)⟩
end
end TG

namespace TG
open PySem PySem.Spec PyProof.Rows L2 NdefX GenW Gx Lv
/-! ### a text's rows, sign by sign -/
def spl1 (s : Nat) : List Nat → List Nat → List (List Nat)
  | acc, [] => [acc]
  | acc, c :: l => if c = s then acc :: spl1 s [] l else spl1 s (acc ++ [c]) l
theorem spl_one (s : Nat) : ∀ (l acc : List Nat), TL.spl [s] 0 acc l = spl1 s acc l
  | [], acc => rfl
  | c :: r, acc => by
    have hp : TL.pre [s] (c :: r) = decide (c = s) := by
      show (List.take 1 (c :: r) == [s]) = _
      by_cases h : c = s
      · subst h; simp
      · simp [h]
    unfold TL.spl spl1
    rw [hp]
    by_cases h : c = s
    · rw [if_pos (decide_eq_true h), if_pos h]
      rw [← spl_one s r []]
      rfl
    · rw [if_neg (by rw [decide_eq_false h]; exact Bool.false_ne_true), if_neg h]
      exact spl_one s r _
theorem spl1_ne (s : Nat) : ∀ (l acc : List Nat), spl1 s acc l ≠ []
  | [], acc => by simp [spl1]
  | c :: r, acc => by
    unfold spl1
    split
    · simp
    · exact spl1_ne s r _
theorem spl1_mem (s : Nat) : ∀ (l acc : List Nat) (p : List Nat), p ∈ spl1 s acc l → s ∉ acc → s ∉ p ∧ ∀ c ∈ p, c ∈ acc ∨ c ∈ l
  | [], acc, p, h, ha => by
    unfold spl1 at h
    rw [List.mem_singleton] at h
    subst h
    exact ⟨ha, fun c hc => .inl hc⟩
  | c :: r, acc, p, h, ha => by
    unfold spl1 at h
    split at h
    · rename_i hcs
      rcases List.mem_cons.mp h with rfl | h
      · exact ⟨ha, fun d hd => .inl hd⟩
      · obtain ⟨h1, h2⟩ := spl1_mem s r [] p h (by simp)
        exact ⟨h1, fun d hd => by
          rcases h2 d hd with z | z
          · cases z
          · exact .inr (List.mem_cons_of_mem _ z)⟩
    · rename_i hcs
      obtain ⟨h1, h2⟩ := spl1_mem s r (acc ++ [c]) p h (fun z => by
        rcases List.mem_append.mp z with z | z
        · exact ha z
        · exact hcs (List.mem_singleton.mp z).symm)
      exact ⟨h1, fun d hd => by
        rcases h2 d hd with z | z
        · rcases List.mem_append.mp z with z | z
          · exact .inl z
          · rw [List.mem_singleton.mp z]; exact .inr List.mem_cons_self
        · exact .inr (List.mem_cons_of_mem _ z)⟩
theorem spl1_end (s : Nat) : ∀ (l acc : List Nat), spl1 s acc (l ++ [s]) = spl1 s acc l ++ [[]]
  | [], acc => by simp [spl1]
  | c :: r, acc => by
    show spl1 s acc (c :: (r ++ [s])) = _
    unfold spl1
    split
    · rw [spl1_end s r []]; rfl
    · exact spl1_end s r _
theorem spl1_more (s c : Nat) (hc : c ≠ s) : ∀ (l acc : List Nat) (R : List (List Nat)) (C : List Nat), spl1 s acc l = R ++ [C] → spl1 s acc (l ++ [c]) = R ++ [C ++ [c]]
  | [], acc, R, C, h => by
    unfold spl1 at h
    have e : R = [] ∧ C = acc := by
      cases R with
      | nil => injection h with h _; exact ⟨rfl, h.symm⟩
      | cons x R => injection h with _ h; cases R <;> cases h
    obtain ⟨rfl, rfl⟩ := e
    simp [spl1, hc]
  | d :: r, acc, R, C, h => by
    show spl1 s acc (d :: (r ++ [c])) = _
    unfold spl1 at h ⊢
    split
    · rename_i hd
      rw [if_pos hd] at h
      cases R with
      | nil =>
        injection h with _ h
        exact absurd h (spl1_ne s r [])
      | cons x R =>
        injection h with h1 h2
        rw [spl1_more s c hc r [] R C h2, h1]
        rfl
    · rename_i hd
      rw [if_neg hd] at h
      exact spl1_more s c hc r _ R C h
/-- what is gone on with: cells, a cell, and the signs to come, the last of which is a line's end -/
def goR : List (List Nat) → List Nat → List Nat → List (List (List Nat))
  | _, _, [] => []
  | R, C, c :: l => if c = 9 then goR (R ++ [C]) [] l else if c = 10 then (R ++ [C]) :: goR [] [] l else goR R (C ++ [c]) l
theorem go_split : ∀ (l acc : List Nat) (R : List (List Nat)) (C : List Nat), spl1 9 [] acc = R ++ [C] → (spl1 10 acc l).map (spl1 9 []) = goR R C (l ++ [10])
  | [], acc, R, C, h => by
    show [spl1 9 [] acc] = goR R C [10]
    rw [h]
    rfl
  | c :: l, acc, R, C, h => by
    show (spl1 10 acc (c :: l)).map (spl1 9 []) = goR R C (c :: (l ++ [10]))
    unfold spl1 goR
    by_cases h9 : c = 9
    · subst h9
      rw [if_neg (by decide), if_pos rfl]
      exact go_split l _ _ _ (by rw [spl1_end, h])
    · rw [if_neg h9]
      by_cases h10 : c = 10
      · rw [if_pos h10, if_pos h10, List.map_cons, h, go_split l [] [] [] rfl]
      · rw [if_neg h10, if_neg h10]
        exact go_split l _ _ _ (spl1_more 9 c h9 acc [] R C h)
theorem rowsT_cl (z : Str) : (rowsT z).map (List.map cl) = goR [] [] (cl z ++ [10]) := by
  have e1 := split_clL z lineS (by rw [cl_lineS]; decide) kind_line
  rw [cl_lineS, spl_one] at e1
  rw [← go_split (cl z) [] [] [] rfl, ← e1, List.map_map]
  unfold rowsT
  rw [List.map_map]
  apply List.map_congr_left
  intro p _
  have e2 := split_clL p tabS (by rw [cl_tabS]; decide) kind_tab
  rw [cl_tabS, spl_one] at e2
  exact e2
/-- signs, tabs and line ends -/
def TxtSg (z : Str) : Prop := ∀ c ∈ cl z, SgOk c ∨ c = 9 ∨ c = 10
theorem rowsT_sg {z : Str} (h : TxtSg z) : ∀ r ∈ rowsT z, ∀ x ∈ r, (∀ c ∈ cl x, SgOk c) ∧ x.length ≤ z.length := by
  intro r hr x hx
  unfold rowsT at hr
  obtain ⟨p, hp, rfl⟩ := List.mem_map.mp hr
  have l1 := split_pieceL (by rw [cl_lineS]; decide) kind_line hp
  have l2 := split_pieceL (by rw [cl_tabS]; decide) kind_tab hx
  have e1 := split_clL z lineS (by rw [cl_lineS]; decide) kind_line
  rw [cl_lineS, spl_one] at e1
  have e2 := split_clL p tabS (by rw [cl_tabS]; decide) kind_tab
  rw [cl_tabS, spl_one] at e2
  have m1 : cl p ∈ spl1 10 [] (cl z) := by rw [← e1]; exact List.mem_map_of_mem hp
  have m2 : cl x ∈ spl1 9 [] (cl p) := by rw [← e2]; exact List.mem_map_of_mem hx
  obtain ⟨a1, a2⟩ := spl1_mem 10 _ _ _ m1 (by simp)
  obtain ⟨b1, b2⟩ := spl1_mem 9 _ _ _ m2 (by simp)
  refine ⟨fun c hc => ?_, by omega⟩
  rcases b2 c hc with q | q
  · cases q
  rcases a2 c q with q2 | q2
  · cases q2
  rcases h c q2 with q3 | q3 | q3
  · exact q3
  · rw [q3] at hc; exact absurd hc b1
  · rw [q3] at q; exact absurd q a1
theorem rowsT_pos (z : Str) : 1 ≤ (rowsT z).length ∧ ∀ r ∈ rowsT z, 1 ≤ r.length := by
  have ne : ∀ (x y : Str), cl y ≠ [] → Builtin.Str.strKind y = 1 → (∃ s, cl y = [s]) → 1 ≤ (Txt.split x y).length := fun x y h0 hk ⟨s, hs⟩ => by
    have e := split_clL x y h0 hk
    rw [hs, spl_one] at e
    have h := spl1_ne s (cl x) []
    rw [← e] at h
    cases q : Txt.split x y with
    | nil => rw [q] at h; exact absurd rfl h
    | cons a b => simp
  refine ⟨?_, fun r hr => ?_⟩
  · unfold rowsT
    rw [List.length_map]
    exact ne z lineS (by rw [cl_lineS]; decide) kind_line ⟨10, cl_lineS⟩
  · unfold rowsT at hr
    obtain ⟨p, _, rfl⟩ := List.mem_map.mp hr
    exact ne p tabS (by rw [cl_tabS]; decide) kind_tab ⟨9, cl_tabS⟩
theorem rowsT_len {z : Str} (h : z.length ≤ 1000000) : (rowsT z).length ≤ 1000002 ∧ ∀ r ∈ rowsT z, r.length ≤ 1000002 := by
  refine ⟨?_, fun r hr => ?_⟩
  · unfold rowsT
    rw [List.length_map]
    exact Nat.le_trans (PyProof.Rows.split_le z _) (by omega)
  · unfold rowsT at hr
    obtain ⟨p, hp, rfl⟩ := List.mem_map.mp hr
    have l1 := split_pieceL (by rw [cl_lineS]; decide) kind_line hp
    exact Nat.le_trans (PyProof.Rows.split_le p _) (by omega)
/-! ### which row can't be -/
def fitR (r : List Str) : Bool := decide (r.length ≤ 6) && r.all fun z => decide (z.length ≤ 10)
structure BadAt (rows : List (List Str)) (n : Nat) : Prop where
  lt : n < rows.length
  n30 : n ≤ 30
  bad : n = 30 ∨ ∃ r, rows[n]? = some r ∧ fitR r = false
  ok : ∀ i r, i < n → rows[i]? = some r → fitR r = true
def GoodR (rows : List (List Str)) : Prop := rows.length ≤ 30 ∧ ∀ r ∈ rows, fitR r = true
theorem good_or (rows : List (List Str)) : GoodR rows ∨ ∃ n, BadAt rows n := by
  have key : ∀ n, n ≤ rows.length → n ≤ 30 → (∃ m, BadAt rows m) ∨ ∀ i r, i < n → rows[i]? = some r → fitR r = true := by
    intro n
    induction n with
    | zero => exact fun _ _ => .inr fun i r h => absurd h (Nat.not_lt_zero _)
    | succ n ih =>
      intro h1 h2
      rcases ih (by omega) (by omega) with h | h
      · exact .inl h
      · obtain ⟨r, hr⟩ := getP (xs := rows) (i := n) (by omega)
        cases hf : fitR r with
        | false => exact .inl ⟨n, by omega, by omega, .inr ⟨r, hr, hf⟩, h⟩
        | true =>
          refine .inr fun i q hi hq => ?_
          by_cases e : i = n
          · subst e; rw [hr] at hq; cases hq; exact hf
          · exact h i q (by omega) hq
  by_cases hl : rows.length ≤ 30
  · rcases key rows.length (Nat.le_refl _) hl with h | h
    · exact .inr h
    · refine .inl ⟨hl, fun r hr => ?_⟩
      obtain ⟨i, hi, e⟩ := List.getElem_of_mem hr
      exact h i r hi (by rw [List.getElem?_eq_getElem hi, e])
  · rcases key 30 (by omega) (Nat.le_refl _) with h | h
    · exact .inr h
    · exact .inr ⟨30, by omega, Nat.le_refl _, .inl rfl, h⟩
theorem good_pg {z : Str} (h : TxtSg z) (g : GoodR (rowsT z)) : PgOk (rowsT z) := by
  refine ⟨(rowsT_pos z).1, g.1, fun r hr => ?_⟩
  have f := g.2 r hr
  unfold fitR at f
  rw [Bool.and_eq_true, List.all_eq_true] at f
  exact ⟨(rowsT_pos z).2 r hr, of_decide_eq_true f.1, fun x hx => ⟨of_decide_eq_true (f.2 x hx), (rowsT_sg h r hr x hx).1⟩⟩
end TG

namespace TG
open PySem PySem.Spec PyProof.Rows L2 NdefX GenW Gx Lv
/-! ### what is refused of a text -/
section
variable {P : Program} {w : World} {K : PySem.W.Frag} {mg : Str → Option Value} {base : Heap} {cs : List (Addr × Addr)}
def spText3 (cs : List (Addr × Addr)) : Sp := fun vs H Q _ => ∃ (z : Str) (m : Int), vs = [.str z, .int m] ∧ Tabs cs H ∧ z.length ≤ 1000000 ∧ (∀ c ∈ z.cps.toList, SgOk c) ∧ ∀ H', Ex cs H H' → Q (.bl (decide ((z.length : Int) ≤ m))) H'
theorem ok_text3 {f c Pt g : Addr} {fd fdg : FuncData} (T : Txt mg) (F : Fun K "is_text_of_signs" "is_text_of_signs" s_is_text f fd) (hc : fd.code = .ref c) (TB : GxR.TabB base mg c Pt) (hm : (c, Pt) ∈ cs)
    (G : FnOk P w K mg base CX0 1 g fdg ["sign"] spSg) (kp : PySem.W.keepIn K (.ref g) = true) (bd : Binds K fdg ["sign"] []) (mgg : mg "is_sign" = some (.ref g)) : FnOk P w K mg base CX0 5 f fd ["value", "most"] (spText3 cs) := by
  refine fun_okT F hc sc_text (fun vs H Q E h => ?_) (fun A outer s H vs Q E hr h => ?_)
  · obtain ⟨z, m, rfl, _⟩ := h
    rfl
  · obtain ⟨z, m, rfl, hT, h2, h3, k⟩ := h
    have szl : (10000000 : Nat) < sizeLine := by decide
    refine ⟨_, pss_one (ps_ret (pe_and (pe_callB call_isi (by rfl) T.isin (by decide +kernel) (pa_cons (pv 0) (pa_cons (pe_bltn (v := .ty "str") (by rfl) T.str (by decide +kernel) rfl) pa_nil)))
      (pe_and (pe_cmpR op_le (pe_callB call_len_str (by rfl) T.len PySem.boot_len (pa_cons (pv 0) pa_nil)) (pv 1) (nomark _))
        (pe_one (pe_allG (k := 1) (P := Pt) hr (by rfl) T.all TB rfl ⟨rfl, rfl, by decide +kernel, by decide +kernel, rfl, rfl⟩ (pi_str (pv 0)) (fun A' code s4 H4 fp hr' => pe_call G hr' (by rfl) mgg kp bd .nil pass0 (pa_cons (pv 0) pa_nil)) (fun _ => rfl)))))), ?_⟩
    by_cases h1 : (z.length : Int) ≤ m
    · rw [decide_eq_true h1] at k
      refine ⟨_, rfl, _, _, _, _, true, rfl, .ty _, .base (.str z), kit_ty (by decide +kernel), true, rfl, iteT ⟨_, rfl, z, rfl, by omega, _, rfl, _, _, rfl, rfl, true, dT h1, iteT ⟨_, rfl, z, rfl, hT _ hm, fun H2 hH2 => ?_⟩⟩⟩
      refine all_by (w := walk_str (z := z)) (fun _ => true) (fun _ H' => H' = H2) rfl (fun _ _ _ _ => trivial) (fun i v H3 H4 hi e y Z hZ => ?_) (fun H3 e _ => ?_) (fun i H3 _ e _ => by cases e)
      · obtain ⟨rfl, c, hc, rfl⟩ := y
        subst e
        refine ⟨_, rfl, c, rfl, h3 c ?_, hZ _ rfl⟩
        exact List.mem_of_getElem? (by rw [Array.getElem?_toList]; exact hc)
      · subst e
        exact k _ (Ex.tabbed hT hm hH2)
    · rw [decide_eq_false h1] at k
      exact ⟨_, rfl, _, _, _, _, true, rfl, .ty _, .base (.str z), kit_ty (by decide +kernel), true, rfl, iteT ⟨_, rfl, z, rfl, by omega, _, rfl, _, _, rfl, rfl, false, dF h1, iteF (k H (Ex.refl hT))⟩⟩
structure RowT (r : List Str) : Prop where
  pos : 1 ≤ r.length
  sg : ∀ z ∈ r, ∀ c ∈ cl z, SgOk c
  len : ∀ z ∈ r, z.length ≤ 1000000
def spRow3 (K : PySem.W.Frag) (cs : List (Addr × Addr)) : Sp := fun vs H Q _ => ∃ (a : Addr) (r : List Str), vs = [.ref a] ∧ Tabs cs H ∧ SqT K H a (sV r) ∧ RowT r ∧ ∀ H', Ex cs H H' → Q (.bl (fitR r)) H'
theorem ok_row3 {f c Pt g : Addr} {fd fdg : FuncData} (T : Txt mg) (N : Consts mg) (F : Fun K "is_row" "is_row" s_is_row f fd) (hc : fd.code = .ref c) (TB : GxR.TabB base mg c Pt) (hm : (c, Pt) ∈ cs)
    (W : FnOk P w K mg base CX0 5 g fdg ["value", "most"] (spText3 cs)) (kp : PySem.W.keepIn K (.ref g) = true) (bd : Binds K fdg ["value", "most"] []) (mgg : mg "is_text_of_signs" = some (.ref g)) : FnOk P w K mg base CX0 9 f fd ["value"] (spRow3 K cs) := by
  refine fun_okT F hc sc_row (fun vs H Q E h => ?_) (fun A outer s H vs Q E hr h => ?_)
  · obtain ⟨a, r, rfl, _⟩ := h
    rfl
  · obtain ⟨a, r, rfl, hT, hS, hL, k⟩ := h
    obtain ⟨t1, e1⟩ := N.cells
    obtain ⟨t2, e2⟩ := N.signs
    refine ⟨_, pss_cons (ps_if (PW.pt (pw_or (pt_not (pt_val (pe_callB call_isi (by rfl) T.isin (by decide +kernel) (pa_cons (pv 0) (pa_cons (pe_bltn (v := .ty "tuple") (by rfl) T.tuple (by decide +kernel) rfl) pa_nil)))))
        (pw_or1 (pt_not (pt_chain op_le op_le pe_int (pe_callB call_len_seq (by rfl) T.len PySem.boot_len (pa_cons (pv 0) pa_nil)) (pe_glob (v := .int 6) rfl e1 ⟨_, rfl⟩)))))) (pss_one (ps_ret pe_bl)) pss_nil)
      (pss_one (ps_ret (pe_allG (k := 5) (P := Pt) hr (by rfl) T.all TB rfl ⟨rfl, rfl, by decide +kernel, by decide +kernel, rfl, rfl⟩ (pi_tup (pv 0))
        (fun A' code s4 H4 fp hr' => pe_call W hr' (by rfl) mgg kp bd .nil pass0 (pa_cons (pv 0) (pa_cons (pe_glob (v := .int 10) rfl e2 ⟨_, rfl⟩) pa_nil))) (fun _ => rfl)))), ?_⟩
    have hl : (sV r).length = r.length := List.length_map ..
    have hpos := hL.pos
    refine ⟨_, rfl, _, _, _, _, true, rfl, .ty _, ty_tup hS, kit_ty (by decide +kernel), true, rfl, iteF ⟨_, rfl, a, _, rfl, .inr hS, 1, _, rfl, rfl, true, dT (by omega), iteT ⟨_, 6, rfl, rfl, ?_⟩⟩⟩
    by_cases h6 : r.length ≤ 6
    · refine ⟨true, dT (by omega), iteF ⟨_, rfl, a, rfl, ⟨_, hS⟩, hT _ hm, fun H2 hH2 => ?_⟩⟩
      have x2 := Ex.tabbed hT hm hH2
      have ef : fitR r = r.all fun z => decide (z.length ≤ 10) := by unfold fitR; rw [decide_eq_true h6, Bool.true_and]
      refine all_by (w := walk_tup (a := a) (xs := sV r)) (fun i => match r[i]? with | some z => decide (z.length ≤ 10) | none => true) (fun _ H' => Ex cs H H') x2 (fun i H' _ x => x.sqT hS) (fun i v H3 H4 hi x y Z hZ => ?_) (fun H3 x hall => ?_) (fun i H3 hi hff x => ?_)
      · obtain ⟨rfl, hv⟩ := y
        obtain ⟨z, hz, rfl⟩ := get_map hv
        have zm := List.mem_of_getElem? hz
        refine ⟨_, rfl, z, 10, rfl, x.tab, hL.len z zm, hL.sg z zm, fun H5 x5 => ?_⟩
        have := hZ _ (x.trans x5)
        rw [hz] at this
        have e : decide ((z.length : Int) ≤ 10) = decide (z.length ≤ 10) := by
          by_cases q : z.length ≤ 10
          · rw [decide_eq_true q, decide_eq_true (by omega)]
          · rw [decide_eq_false q, decide_eq_false (by omega)]
        rw [e]
        exact this
      · have e : fitR r = true := by
          rw [ef, List.all_eq_true]
          intro z hz
          obtain ⟨i, hi, e⟩ := List.getElem_of_mem hz
          have q := hall i (by omega)
          rw [List.getElem?_eq_getElem hi, e] at q
          exact q
        rw [← e]
        exact k _ x
      · have e : fitR r = false := by
          rw [ef, Bool.eq_false_iff]
          intro q
          rw [List.all_eq_true] at q
          have hi2 : i < r.length := by omega
          rw [List.getElem?_eq_getElem hi2] at hff
          have := q _ (List.getElem_mem hi2)
          rw [show decide (r[i].length ≤ 10) = false from hff] at this
          cases this
        rw [← e]
        exact k _ x
    · refine ⟨false, dF (by omega), iteT ?_⟩
      have e : fitR r = false := by unfold fitR; rw [decide_eq_false h6, Bool.false_and]
      rw [← e]
      exact k _ (Ex.refl hT)
def spMisB (K : PySem.W.Frag) (cs : List (Addr × Addr)) : Sp := fun vs H Q _ => ∃ (a : Addr) (as : List Addr) (rows : List (List Str)) (n : Nat), vs = [.ref a] ∧ Tabs cs H ∧ PageAt K H a as rows ∧ (∀ r ∈ rows, RowT r) ∧ BadAt rows n ∧ ∀ H', Ex cs H H' → Q (.int (n : Nat)) H'
theorem ok_misB {f g : Addr} {fd fdg : FuncData} (T : Txt mg) (N : Consts mg) (F : Fun K "first_misfit" "first_misfit" s_misfit f fd)
    (G : FnOk P w K mg base CX0 9 g fdg ["value"] (spRow3 K cs)) (kp : PySem.W.keepIn K (.ref g) = true) (bd : Binds K fdg ["value"] []) (mgg : mg "is_row" = some (.ref g)) : FnOk P w K mg base CX0 10 f fd ["rows"] (spMisB K cs) := by
  refine F.ok sc_misfit (fun vs H Q E h => ?_) (fun cdv A outer s H vs Q E hr h => ?_)
  · obtain ⟨a, as, rows, n, rfl, _⟩ := h
    rfl
  · obtain ⟨a, as, rows, n, rfl, hT, hP, hO, hB, k⟩ := h
    have nd := sc_misfit.nd
    obtain ⟨t1, e1⟩ := N.rows
    refine ⟨_, pss_cons (ps_for PassesOwn.never rfl (pi_enum (by rfl) T.enum (pa_cons (pv 0) pa_nil)) (pg_tup rfl (pgs_cons (pg_name (i := 1) nd rfl (.inl rfl)) (pgs_cons (pg_name (i := 2) nd rfl (.inl rfl)) pgs_nil)))
        (pss_one (ps_if (PW.pt (pw_or (pt_cmpR op_eq (pv 1) (pe_glob (v := .int 30) rfl e1 ⟨_, rfl⟩) (nomark _)) (pw_or1 (pt_not (pt_val (pe_call G hr (by rfl) mgg kp bd .nil pass0 (pa_cons (pv 2) pa_nil))))))) (pss_one (ps_ret (pv 1))) pss_nil)))
      (pss_one ps_never), ?_⟩
    have hl : (as.map V.ref).length = rows.length := by rw [List.length_map]; exact hP.len
    have hlt := hB.lt
    refine ⟨_, rfl, a, _, rfl, hP.lst, for_it (walk_enum (xs := as.map V.ref)) (fun i σ H' => i ≤ n ∧ Ex cs H H' ∧ σ[0]? = some (some (.ref a)) ∧ σ.length = 3) ⟨Nat.zero_le _, Ex.refl hT, rfl, rfl⟩ (fun i σ H' _ x => x.2.1.sqL hP.lst) ?_ ?_⟩
    · rintro i x σ H3 H4 hi ⟨hin, x3, s0, sl⟩ ⟨Tp, v, u, rfl, hn, rfl, hv, hu⟩
      cases hv
      obtain ⟨p, hp, rfl⟩ := get_map hu
      have hi2 : i < rows.length := by omega
      obtain ⟨r, hr2⟩ := getP hi2
      have xl := Ex.laid (o := .tup [.int (i : Nat), .ref p]) x3.tab hn
      refine ⟨Tp, _, rfl, .inl (.inl upd_same), rfl, _, _, rfl, _, _, rfl, rfl, ?_⟩
      have g1 : ((σ.set 1 (some (V.int (i : Nat)))).set 2 (some (V.ref p)))[1]? = some (some (V.int (i : Nat))) := by
        rw [List.getElem?_set_ne (by decide)]
        exact List.getElem?_set_self (by omega)
      have g2 : ((σ.set 1 (some (V.int (i : Nat)))).set 2 (some (V.ref p)))[2]? = some (some (V.ref p)) := List.getElem?_set_self (by rw [List.length_set]; omega)
      have n30 := hB.n30
      by_cases h30 : i = 30
      · have ein : i = n := by omega
        subst ein
        exact ⟨_, g1, rfl, true, dT (by rw [h30]; rfl), iteT (iteT ⟨_, g1, k _ (x3.trans xl)⟩)⟩
      · refine ⟨_, g1, rfl, false, dF (fun z => by injection z with z; omega), iteF ⟨_, g2, p, r, rfl, xl.tab, (x3.trans xl).sqT (hP.row i p r hp hr2), hO r (List.mem_of_getElem? hr2), fun H5 x5 => ⟨_, rfl, ?_⟩⟩⟩
        by_cases hlt2 : i < n
        · rw [hB.ok i r hlt2 hr2]
          refine iteF ⟨by omega, (x3.trans xl).trans x5, ?_, ?_⟩
          · rw [List.getElem?_set_ne (by decide), List.getElem?_set_ne (by decide)]; exact s0
          · rw [List.length_set, List.length_set]; exact sl
        · have ein : i = n := by omega
          subst ein
          rcases hB.bad with q | ⟨r2, h1, h2⟩
          · exact absurd q h30
          · rw [hr2] at h1
            cases h1
            rw [h2]
            exact iteT ⟨_, g1, k _ ((x3.trans xl).trans x5)⟩
    · rintro σ H' ⟨hin, _⟩
      omega
def spReadX (cs : List (Addr × Addr)) (C : Addr) : Sp := fun vs H _ E => ∃ (z : Str) (n : Nat), vs = [.str z] ∧ Tabs cs H ∧ z.length ≤ 1000000 ∧ TxtSg z ∧ BadAt (rowsT z) n ∧
  ∀ (d : Addr) (H' : Hp), Ex cs H H' → H d = none → H' d = some (.xd [("row", .int (n : Nat))]) → E (.ref C) (some d) H'
theorem ok_readX {f g1 g2 C fI : Addr} {fd fd1 fd2 fdI : FuncData} (T : Txt mg) (R : RaiseC P w K mg base "BadText" "row" C fI fdI) (F : Fun K "read" "read" s_read f fd)
    (G1 : FnOk P w K mg base CX0 1 g1 fd1 ["text"] (spRowsOf cs)) (k1 : PySem.W.keepIn K (.ref g1) = true) (b1 : Binds K fd1 ["text"] []) (m1 : mg "rows_of" = some (.ref g1))
    (G2 : FnOk P w K mg base CX0 10 g2 fd2 ["rows"] (spMisB K cs)) (k2 : PySem.W.keepIn K (.ref g2) = true) (b2 : Binds K fd2 ["rows"] []) (m2 : mg "first_misfit" = some (.ref g2)) : FnOk P w K mg base (L2.CX P w) 11 f fd ["text"] (spReadX cs C) := by
  refine F.okX sc_read (fun vs H Q E h => ?_) (fun cdv A outer s H vs Q E hr h => ?_)
  · obtain ⟨z, n, rfl, _⟩ := h
    rfl
  · obtain ⟨z, n, rfl, hT, hz, hs, hB, k⟩ := h
    have nd := sc_read.nd
    have r1 : Room 1 _ := hr.mono (by decide)
    have r2 : Room 2 _ := hr.mono (by decide)
    refine ⟨_, pss_cons (ps_if (pt_not (pt_val (pe_callB call_isi (by rfl) T.isin (by decide +kernel) (pa_cons (pv 0) (pa_cons (pe_bltn (v := .ty "str") (by rfl) T.str (by decide +kernel) rfl) pa_nil))))) (pss_one ps_never) pss_nil)
      (pss_cons (ps_set (i := 1) nd rfl (.inl rfl) (pe_call G1 r1 (by rfl) m1 k1 b1 .nil pass0 (pa_cons (pv 0) pa_nil)))
      (pss_cons (ps_set (i := 2) nd rfl (.inl rfl) (pe_call G2 hr (by rfl) m2 k2 b2 .nil pass0 (pa_cons (pv 1) pa_nil)))
      (pss_cons (ps_if (pt_cmpR op_notN (pv 2) pe_non (nomark _)) (pss_one (ps_raise rfl (takes_of rfl rfl rfl rfl) (pmk_oex R.oex R.iC R.tI R.ini r2 R.bd .nil pass0 (by rfl) R.mg_ (pa_cons (pv 2) pa_nil)))) pss_nil)
      (pss_one ps_never)))), ?_⟩
    refine ⟨_, rfl, _, _, _, _, true, rfl, .ty _, .base (.str z), kit_ty (by decide +kernel), true, rfl, iteF ⟨_, rfl, z, rfl, hT, hz, fun r ps H1 x1 nr hr1 hps => ?_⟩⟩
    have PA : PageAt K H1 r ps (rowsT z) := ⟨SqL.of hr1, hps.len, fun i q z h1 h2 => .inl (.inl (hps.row i q z h1 h2))⟩
    have n30 := hB.n30
    refine ⟨_, rfl, r, ps, rowsT z, n, rfl, x1.tab, PA, fun q hq => ⟨(rowsT_pos z).2 q hq, fun x hx => (rowsT_sg hs q hq x hx).1, fun x hx => Nat.le_trans (rowsT_sg hs q hq x hx).2 hz⟩, hB, fun H2 x2 => ⟨_, rfl, rfl, true, rfl, iteT ?_⟩⟩
    refine raise_go (n := ((n : Nat) : Int)) x2.tab (by omega) (by omega) (fun Q q => ⟨_, rfl, q⟩) fun d H' x3 nd3 hd3 => ?_
    exact k d H' ((x1.trans x2).trans x3) ((x1.trans x2).old _ nd3) hd3
end
end TG

namespace TG
open PySem PySem.Spec PyProof.Rows L2 NdefX GenW Gx Lv
/-! ### a text, spoilt -/
theorem cutS_mem {z : Str} {lo hi : Option Int} {c : Nat} (h : c ∈ cl (cutS z lo hi)) : c ∈ cl z := by
  have h : c ∈ List.take (HT.sIx z.length z.length hi - HT.sIx z.length 0 lo) (List.drop (HT.sIx z.length 0 lo) z.cps.toList) := by
    simpa [cl, cutS] using h
  exact List.mem_of_mem_drop (List.mem_of_mem_take h)
theorem cutS_two (z : Str) (n : Nat) : (cutS z (some (n : Int)) (some ((n : Int) + 2))).length ≤ 2 := by
  rw [len_cl]
  show (List.take (HT.sIx z.length z.length (some ((n : Int) + 2)) - HT.sIx z.length 0 (some (n : Int))) (List.drop (HT.sIx z.length 0 (some (n : Int))) z.cps.toList)).toArray.toList.length ≤ 2
  rw [show (some ((n : Int) + 2)) = some (((n + 2 : Nat) : Int)) from rfl, HT.sIx_nat, HT.sIx_nat]
  refine Nat.le_trans (List.length_take_le ..) ?_
  omega
theorem sgC {z : Str} (h : TxtSg z) (lo hi : Option Int) : TxtSg (cutS z lo hi) := fun c hc => h c (cutS_mem hc)
theorem sgA {x y : Str} (h : TxtSg x) (k : TxtSg y) : TxtSg (x ++ y) := fun c hc => by
  rw [show cl (x ++ y) = cl x ++ cl y from cl_app x y] at hc
  rcases List.mem_append.mp hc with q | q
  · exact h c q
  · exact k c q
theorem lenA (x y : Str) : (x ++ y).length = x.length + y.length := by rw [len_cl, cl_app, List.length_append, ← len_cl, ← len_cl]
theorem cut_nat (xs : List V) (a b : Nat) : cutV xs (some (a : Int)) (some (b : Int)) = (xs.drop (min a xs.length)).take (min b xs.length - min a xs.length) := by
  unfold cutV
  rw [HT.sIx_nat, HT.sIx_nat]
theorem cut_toN (xs : List V) (b : Nat) : cutV xs none (some (b : Int)) = xs.take b := by
  unfold cutV
  rw [HT.sIx_nat, HT.sIx_none, List.drop_zero, Nat.sub_zero]
  by_cases h : b ≤ xs.length
  · rw [Nat.min_eq_left h]
  · rw [Nat.min_eq_right (by omega), List.take_of_length_le (Nat.le_refl _), List.take_of_length_le (by omega)]
theorem cut_fromN (xs : List V) (n : Nat) : cutV xs (some (n : Int)) none = xs.drop n := by
  unfold cutV
  rw [HT.sIx_none, HT.sIx_nat]
  by_cases h : n ≤ xs.length
  · rw [Nat.min_eq_left h, List.take_of_length_le]
    rw [List.length_drop]
    exact Nat.le_refl _
  · rw [Nat.min_eq_right (by omega), Nat.sub_self, List.take_zero, List.drop_eq_nil_of_le (by omega)]
/-- how long pieces are, with what parts them -/
def tot (ps : List (List Nat)) : Nat := (ps.map List.length).sum + ps.length
theorem tot_app (a b : List (List Nat)) : tot (a ++ b) = tot a + tot b := by
  unfold tot
  rw [List.map_append, List.sum_append, List.length_append]
  omega
theorem tot_spl (s : Nat) : ∀ (l acc : List Nat), tot (spl1 s acc l) = acc.length + l.length + 1
  | [], acc => by simp [spl1, tot]
  | c :: r, acc => by
    unfold spl1
    split
    · have := tot_spl s r []
      show (List.map List.length (acc :: spl1 s [] r)).sum + (spl1 s [] r).length.succ = _
      unfold tot at this
      rw [List.map_cons, List.sum_cons, List.length_cons]
      simp at this
      omega
    · have := tot_spl s r (acc ++ [c])
      rw [this, List.length_append, List.length_cons]
      simp
      omega
theorem tot_join (s : Nat) : ∀ ps : List (List Nat), (TL.joinL [s] ps).length ≤ tot ps
  | [] => Nat.zero_le _
  | [p] => by show p.length ≤ tot [p]; simp [tot]
  | p :: q :: r => by
    have := tot_join s (q :: r)
    show (p ++ ([s] ++ TL.joinL [s] (q :: r))).length ≤ _
    rw [List.length_append, List.length_append, List.length_singleton]
    have e : tot (p :: q :: r) = p.length + 1 + tot (q :: r) := by
      rw [show p :: q :: r = [p] ++ (q :: r) from rfl, tot_app]
      simp [tot]
    omega
/-- the rows of a text, one of them left out or twice -/
theorem twice_ok {z : Str} (h : TxtSg z) {k m : Nat} (hm : m ≤ 2) : ∀ ns : List Str, ns = (Txt.split z lineS).take k ++ (List.replicate m (((Txt.split z lineS).drop k).take 1)).flatten ++ (Txt.split z lineS).drop (k + 1) →
    TxtSg (Txt.join lineS ns) ∧ (Txt.join lineS ns).length ≤ 2 * z.length + 8 ∧ (ns.map (·.length)).sum + ns.length * 1 ≤ 2 * z.length + 8 := by
  intro ns hns
  have e1 := split_clL z lineS (by rw [cl_lineS]; decide) kind_line
  rw [cl_lineS, spl_one] at e1
  have ht := tot_spl 10 (cl z) []
  rw [← e1, List.length_nil, ← len_cl, Nat.zero_add] at ht
  have hmem : ∀ p ∈ ns, p ∈ Txt.split z lineS := fun p hp => by
    rw [hns] at hp
    rcases List.mem_append.mp hp with hp | hp
    · rcases List.mem_append.mp hp with hp | hp
      · exact List.mem_of_mem_take hp
      · obtain ⟨l, hl, hpl⟩ := List.mem_flatten.mp hp
        rw [(List.mem_replicate.mp hl).2] at hpl
        exact List.mem_of_mem_drop (List.mem_of_mem_take hpl)
    · exact List.mem_of_mem_drop hp
  generalize hS : Txt.split z lineS = S at e1 ht hmem hns
  have hbound : tot (ns.map cl) ≤ 2 * (z.length + 1) := by
    have hs : tot (S.map cl) = tot ((S.take k).map cl) + tot ((S.drop k).map cl) := by
      rw [← tot_app, ← List.map_append, List.take_append_drop]
    have hd : tot ((S.drop k).map cl) = tot (((S.drop k).take 1).map cl) + tot ((S.drop (k + 1)).map cl) := by
      rw [← tot_app, ← List.map_append, show S.drop (k + 1) = (S.drop k).drop 1 from by rw [List.drop_drop], List.take_append_drop]
    have hn : tot (ns.map cl) = tot ((S.take k).map cl) + m * tot (((S.drop k).take 1).map cl) + tot ((S.drop (k + 1)).map cl) := by
      rw [hns, List.map_append, List.map_append, tot_app, tot_app]
      have : ∀ (j : Nat) (L : List Str), tot ((List.replicate j L).flatten.map cl) = j * tot (L.map cl) := by
        intro j L
        induction j with
        | zero => simp [tot]
        | succ j ih => rw [List.replicate_succ, List.flatten_cons, List.map_append, tot_app, ih, Nat.succ_mul]; omega
      rw [this]
    have hm2 : m * tot (((S.drop k).take 1).map cl) ≤ 2 * tot (((S.drop k).take 1).map cl) := Nat.mul_le_mul_right _ hm
    omega
  refine ⟨fun c hc => ?_, ?_, ?_⟩
  · have hc : c ∈ cl (Txt.join lineS ns) := hc
    rw [cl_joinL, cl_lineS] at hc
    rcases joinL_mem _ _ _ hc with q | ⟨p, hp, q⟩
    · exact .inr (.inr (by simpa using q))
    · obtain ⟨x, hx, rfl⟩ := List.mem_map.mp hp
      have m1 : cl x ∈ spl1 10 [] (cl z) := by rw [← e1]; exact List.mem_map_of_mem (hmem x hx)
      rcases (spl1_mem 10 _ _ _ m1 (by simp)).2 c q with q | q
      · cases q
      · exact h c q
  · rw [len_cl, cl_joinL, cl_lineS]
    have := tot_join 10 (ns.map cl)
    omega
  · have e : (ns.map (·.length)).sum + ns.length * 1 = tot (ns.map cl) := by
      unfold tot
      rw [List.map_map, List.length_map, Nat.mul_one]
      congr 2
    omega
section
variable {P : Program} {w : World} {K : PySem.W.Frag} {mg : Str → Option Value} {base : Heap} {cs : List (Addr × Addr)}
def spSpoilt : Sp := fun vs H Q _ => ∃ (b l : Addr) (z : Str), vs = [.ref b, .str z] ∧ BoxAt H b l ∧ TxtSg z ∧ z.length ≤ 400000 ∧
  ∀ (z2 : Str) (H' : Hp), TxtSg z2 → z2.length ≤ 2 * z.length + 8 → BoxAt H' b l → KB b l H H' → Q (.str z2) H'
abbrev nmSp : List Str := ["_law_box", "_law_text", "_law_deed", "_law_place", "_law_sign_here", "_law_rows", "_law_k"]
theorem sc_sp : FnScope nmSp ["_law_box", "_law_text"] (defScope s_spoilt) := ⟨rfl, rfl, rfl, by decide +kernel, rfl, by decide +kernel, by decide +kernel⟩
theorem ok_spoilt {f g2 g3 : Addr} {fd fd2 fd3 : FuncData} (T : Txt mg) (F : Fun K "_law_spoilt" "_law_spoilt" s_spoilt f fd)
    (G2 : FnOk P w K mg base CX0 1 g2 fd2 ["_law_box", "_law_many"] spTake) (k2 : PySem.W.keepIn K (.ref g2) = true) (b2 : Binds K fd2 ["_law_box", "_law_many"] []) (m2 : mg "_law_take" = some (.ref g2))
    (G3 : FnOk P w K mg base CX0 2 g3 fd3 ["_law_box"] spSign) (k3 : PySem.W.keepIn K (.ref g3) = true) (b3 : Binds K fd3 ["_law_box"] []) (m3 : mg "_law_sign" = some (.ref g3)) :
    FnOk P w K mg base CX0 3 f fd ["_law_box", "_law_text"] spSpoilt := by
  refine F.ok sc_sp (fun vs H Q E h => ?_) (fun cdv A outer s H vs Q E hr h => ?_)
  · obtain ⟨b, l, z, rfl, _⟩ := h
    rfl
  · obtain ⟨b, l, z, rfl, hB, sz, hz, k⟩ := h
    have nd := sc_sp.nd
    have r1 : Room 1 _ := hr.mono (by decide)
    have r2 : Room 2 _ := hr
    refine ⟨_, (pss_cons (ps_par (i := 2) (j := 3) rfl nd rfl rfl (by decide) rfl rfl (pa_cons (pe_call G2 r1 (by rfl) m2 k2 b2 .nil pass0 (pa_cons (pv 0) (pa_cons pe_int pa_nil))) (pa_cons (pe_call G2 r1 (by rfl) m2 k2 b2 .nil pass0 (pa_cons (pv 0) (pa_cons (pe_op op_add (pe_callB call_len_str (by rfl) T.len PySem.boot_len (pa_cons (pv 1) pa_nil)) pe_int) pa_nil))) pa_nil)) (by rfl))
      (pss_cons (ps_set (i := 4) nd rfl (.inl rfl) (pe_ix ix_list (pe_lst (pa_cons pe_str (pa_cons pe_str (pa_cons pe_str (pa_cons pe_str (pa_cons pe_str (pa_cons pe_str (pa_cons (pe_call G3 r2 (by rfl) m3 k3 b3 .nil pass0 (pa_cons (pv 0) pa_nil)) pa_nil)))))))) (pe_call G2 r1 (by rfl) m2 k2 b2 .nil pass0 (pa_cons (pv 0) (pa_cons pe_int pa_nil))) (fun _ _ => rfl)))
      (pss_cons (ps_if (pt_cmpR op_lt (pv 2) pe_int (nomark _)) (pss_one (ps_ret (pe_op op_add_str (pe_op op_add_str (pe_slice sl_str (pv 1) po_none (po_some (pv 3))) (pv 4)) (pe_slice sl_str (pv 1) (po_some (pe_op op_add (pv 3) (pe_op op_fdivN (pv 2) pe_int))) po_none)))) pss_nil)
      (pss_cons (ps_if (pt_cmpR op_eq (pv 2) pe_int (nomark _)) (pss_one (ps_ret (pe_op op_add_str (pe_slice sl_str (pv 1) po_none (po_some (pv 3))) (pe_slice sl_str (pv 1) (po_some (pe_op op_add (pv 3) pe_int)) po_none)))) pss_nil)
      (pss_cons (ps_set (i := 5) nd rfl (.inl rfl) (pe_split (pv 1) pe_str))
      (pss_cons (ps_set (i := 6) nd rfl (.inl rfl) (pe_ix ix_list (pe_lst (pa_cons (pe_op op_sub (pe_callB call_len_seq (by rfl) T.len PySem.boot_len (pa_cons (pv 5) pa_nil)) pe_int) (pa_cons (pe_call G2 r1 (by rfl) m2 k2 b2 .nil pass0 (pa_cons (pv 0) (pa_cons (pe_callB call_len_seq (by rfl) T.len PySem.boot_len (pa_cons (pv 5) pa_nil)) pa_nil))) pa_nil))) (pe_call G2 r1 (by rfl) m2 k2 b2 .nil pass0 (pa_cons (pv 0) (pa_cons pe_int pa_nil))) (fun _ _ => rfl)))
      (pss_cons (ps_if (pt_cmpR op_lt (pv 2) pe_int (nomark _)) (pss_one (ps_ret (pe_join pe_str (pe_op op_cat (pe_op op_cat (pe_slice sl_list (pv 5) po_none (po_some (pv 6))) (pe_op op_rep (pe_slice sl_list (pv 5) (po_some (pv 6)) (po_some (pe_op op_add (pv 6) pe_int))) (pe_ix ix_list (pe_lst (pa_cons pe_int (pa_cons pe_int pa_nil))) (pe_op op_sub (pv 2) pe_int) (fun _ _ => rfl)))) (pe_slice sl_list (pv 5) (po_some (pe_op op_add (pv 6) pe_int)) po_none))))) pss_nil)
      (pss_one (ps_ret (pe_op op_add_str (pe_op op_add_str (pe_slice sl_str (pv 1) po_none (po_some (pv 3))) (pe_revS (pe_slice sl_str (pv 1) (po_some (pv 3)) (po_some (pe_op op_add (pv 3) pe_int))))) (pe_slice sl_str (pv 1) (po_some (pe_op op_add (pv 3) pe_int)) po_none))))))))))), ?_⟩
    have szl : (10000000 : Nat) < sizeLine := by decide
    refine ⟨_, rfl, b, l, 7, rfl, hB, by decide, by decide, fun deed H1 d0 d1 hB1 x1 => ⟨_, rfl, _, rfl, z, rfl, by omega, _, _, rfl, rfl, b, l, _, rfl, hB1, by omega, by omega, fun place H2 p0 p1 hB2 x2 => ⟨_, _, rfl, ?_⟩⟩⟩
    have hz7 : ∀ c : Nat, SgOk c → TxtSg ⟨#[c]⟩ := fun c hc d hd => by
      have : d = c := by simpa [cl] using hd
      rw [this]
      exact .inl hc
    -- what is put in
    refine ⟨_, rfl, b, l, rfl, hB2, fun sg H3 hsg hB3 x3 => ⟨by show 7 ≤ sizeLine; decide, fun q nq => ⟨_, rfl, b, l, 7, rfl, box_new hB3 nq, by decide, by decide, fun wy H4 w0 w1 hB4 x4 => ?_⟩⟩⟩
    obtain ⟨qb, ql⟩ := new_ne hB3 nq
    have y4 := ((x1.trans x2).trans x3).trans ((kb_new (b := b) (l := l) (o := .lst [.str "\t", .str "\n", .str "a", .str " ", .str "\t\t", .str "abcdefgh", .str ⟨#[sg]⟩]) nq).trans x4)
    have hq4 := x4 q _ upd_same qb ql
    obtain ⟨si, hsi, es⟩ := pick (xs := [("\t" : Str), "\n", "a", " ", "\t\t", "abcdefgh", ⟨#[sg]⟩]) (i := wy) w0 w1
    have hs8 : si.length ≤ 8 ∧ TxtSg si := by
      have e : ∀ y : Str, (cl y).all (fun c => decide ((32 ≤ c ∧ c ≤ 126 ∧ c ≠ 37) ∨ c = 9 ∨ c = 10)) = true → TxtSg y := fun y hy c hc => of_decide_eq_true (List.all_eq_true.mp hy c hc)
      simp only [List.mem_cons, List.not_mem_nil, or_false] at hsi
      rcases hsi with rfl | rfl | rfl | rfl | rfl | rfl | rfl
      · exact ⟨by decide +kernel, e _ (by decide +kernel)⟩
      · exact ⟨by decide +kernel, e _ (by decide +kernel)⟩
      · exact ⟨by decide +kernel, e _ (by decide +kernel)⟩
      · exact ⟨by decide +kernel, e _ (by decide +kernel)⟩
      · exact ⟨by decide +kernel, e _ (by decide +kernel)⟩
      · exact ⟨by decide +kernel, e _ (by decide +kernel)⟩
      · exact ⟨by show 1 ≤ 8; decide, hz7 _ hsg⟩
    refine ⟨q, _, _, .str si, rfl, rfl, SqL.of hq4, atI_map es, ?_⟩
    clear hq4 es hsi x1 x2 x3 x4 hB1 hB2 hB3 nq qb ql
    have cl1 := cutS_len z none (some place)
    -- put in, or in the place of a sign
    refine ⟨_, rfl, _, _, rfl, rfl, decide (deed < 3), rfl, ?_⟩
    by_cases hd3 : deed < 3
    · rw [decide_eq_true hd3]
      refine iteT ?_
      simp only [tNoPart]
      refine ⟨_, rfl, _, rfl, place, rfl, z, rfl, by omega, _, rfl, _, _, rfl, rfl, ?_, _, rfl, _, rfl, _, rfl, _, _, rfl, rfl, ⟨by decide, by decide⟩, _, _, rfl, rfl, _, rfl, z, rfl, by omega, _, _, rfl, rfl, ?_, ?_⟩
      · omega
      · have := cutS_len z (some (place + deed.fdiv 2)) none
        rw [lenA]; omega
      have c2 := cutS_len z (some (place + deed.fdiv 2)) none
      exact k _ _ (sgA (sgA (sgC sz _ _) hs8.2) (sgC sz _ _)) (by rw [lenA, lenA]; omega) hB4 y4
    -- a sign left out
    rw [decide_eq_false hd3]
    refine iteF ⟨_, rfl, rfl, _, rfl, ?_⟩
    by_cases hd4 : V.int deed = V.int 3
    · rw [decide_eq_true hd4]
      refine iteT ?_
      simp only [tNoPart]
      refine ⟨_, rfl, _, rfl, place, rfl, z, rfl, by omega, _, rfl, _, rfl, _, _, rfl, rfl, _, rfl, z, rfl, by omega, _, _, rfl, rfl, ?_, ?_⟩
      · have := cutS_len z (some (place + 1)) none
        omega
      have c2 := cutS_len z (some (place + 1)) none
      exact k _ _ (sgA (sgC sz _ _) (sgC sz _ _)) (by rw [lenA]; omega) hB4 y4
    rw [decide_eq_false hd4]
    have hd5 : ¬ deed = 3 := fun e => hd4 (by rw [e])
    refine iteF ?_
    -- its rows
    have hlen : (Txt.split z lineS).length ≤ 400002 := Nat.le_trans (PyProof.Rows.split_le z _) (by omega)
    have hpos : 1 ≤ (Txt.split z lineS).length := by
      have := (rowsT_pos z).1
      unfold rowsT at this
      rw [List.length_map] at this
      exact this
    refine ⟨_, rfl, ⟨_, rfl⟩, _, _, rfl, rfl, by decide +kernel, by omega, fun p np => ?_⟩
    obtain ⟨pb, pl⟩ := new_ne hB4 np
    have hB5 := box_new (o := .lst ((Txt.split z lineS).map V.str)) hB4 np
    have y5 := y4.trans (kb_new (b := b) (l := l) (o := .lst ((Txt.split z lineS).map V.str)) np)
    have hp5 : upd H4 p (.lst ((Txt.split z lineS).map V.str)) p = some (.lst (sV (Txt.split z lineS))) := upd_same
    generalize upd H4 p (.lst ((Txt.split z lineS).map V.str)) = H5 at hB5 y5 hp5 ⊢
    have hsl : (sV (Txt.split z lineS)).length = (Txt.split z lineS).length := List.length_map ..
    refine ⟨_, rfl, p, _, rfl, .inl (SqL.of hp5), _, _, rfl, rfl, _, rfl, _, rfl, p, _, rfl, .inl (SqL.of hp5), b, l, _, rfl, hB5, by omega, by omega, fun t1 H6 t10 t11 hB6 x6 => ⟨by show 2 ≤ sizeLine; decide, fun q nq => ⟨_, rfl, b, l, 2, rfl, box_new hB6 nq, by decide, by decide, fun t2 H7 t20 t21 hB7 x7 => ?_⟩⟩⟩
    obtain ⟨qb, ql⟩ := new_ne hB6 nq
    have hp7 := x7 p _ ((upd_ne (ne_of_none (x6 p _ hp5 pb pl) nq)).trans (x6 p _ hp5 pb pl)) pb pl
    have hq7 := x7 q _ upd_same qb ql
    have y7 := (y5.trans x6).trans ((kb_new (b := b) (l := l) (o := .lst [.int (((sV (Txt.split z lineS)).length : Nat) - 1), .int t1]) nq).trans x7)
    obtain ⟨kk, hkk, ek⟩ := pick (xs := [((((sV (Txt.split z lineS)).length : Nat) : Int) - 1), t1]) (i := t2) t20 t21
    have hk2 : 0 ≤ kk ∧ kk < (Txt.split z lineS).length := by
      simp only [List.mem_cons, List.not_mem_nil, or_false] at hkk
      omega
    refine ⟨q, _, _, .int kk, rfl, rfl, SqL.of hq7, atI_map (f := V.int) ek, ?_⟩
    clear ek hkk hq7 x6 x7 hB6 hB5 nq qb ql hp5 y5
    obtain ⟨kn, rfl⟩ := Int.eq_ofNat_of_zero_le hk2.1
    -- a row left out, or twice
    refine ⟨_, rfl, _, _, rfl, rfl, decide (deed < 6), rfl, ?_⟩
    by_cases h6 : deed < 6
    · rw [decide_eq_true h6]
      have h3 : 4 ≤ deed := by omega
      refine iteT ?_
      simp only [tNoPart]
      refine ⟨⟨_, rfl⟩, _, rfl, _, rfl, (kn : Int), rfl, p, _, rfl, SqL.of hp7, fun a1 n1 => ?_⟩
      rw [cut_toN]
      have hB8 := box_new (o := .lst ((sV (Txt.split z lineS)).take kn)) hB7 n1
      have y8 := y7.trans (kb_new (b := b) (l := l) (o := .lst ((sV (Txt.split z lineS)).take kn)) n1)
      have ga1 : upd H7 a1 (.lst ((sV (Txt.split z lineS)).take kn)) a1 = some (.lst ((sV (Txt.split z lineS)).take kn)) := upd_same
      have hp7 := (upd_ne (o := .lst ((sV (Txt.split z lineS)).take kn)) (ne_of_none hp7 n1)).trans hp7
      generalize upd H7 a1 (.lst ((sV (Txt.split z lineS)).take kn)) = H8 at hB8 y8 ga1 hp7 ⊢
      refine ⟨_, rfl, _, rfl, (kn : Int), rfl, _, rfl, _, _, rfl, rfl, (kn : Int) + 1, rfl, p, _, rfl, SqL.of hp7, fun a2 n2 => ?_⟩
      have ec : cutV (sV (Txt.split z lineS)) (some (kn : Int)) (some ((kn : Int) + 1)) = ((sV (Txt.split z lineS)).drop kn).take 1 := by
        rw [show (some ((kn : Int) + 1)) = some (((kn + 1 : Nat) : Int)) from rfl, cut_nat, Nat.min_eq_left (by omega), Nat.min_eq_left (by omega)]
        congr 1
        omega
      rw [ec]
      have hB9 := box_new (o := .lst (((sV (Txt.split z lineS)).drop kn).take 1)) hB8 n2
      have y9 := y8.trans (kb_new (b := b) (l := l) (o := .lst (((sV (Txt.split z lineS)).drop kn).take 1)) n2)
      have ga2 : upd H8 a2 (.lst (((sV (Txt.split z lineS)).drop kn).take 1)) a2 = some (.lst (((sV (Txt.split z lineS)).drop kn).take 1)) := upd_same
      have hp7 := (upd_ne (o := .lst (((sV (Txt.split z lineS)).drop kn).take 1)) (ne_of_none hp7 n2)).trans hp7
      have ga1 := (upd_ne (o := .lst (((sV (Txt.split z lineS)).drop kn).take 1)) (ne_of_none ga1 n2)).trans ga1
      generalize upd H8 a2 (.lst (((sV (Txt.split z lineS)).drop kn).take 1)) = H9 at hB9 y9 ga2 hp7 ga1 ⊢
      refine ⟨by show 2 ≤ sizeLine; decide, fun a3 n3 => ?_⟩
      have hB10 := box_new (o := .lst [.int 0, .int 2]) hB9 n3
      have y10 := y9.trans (kb_new (b := b) (l := l) (o := .lst [.int 0, .int 2]) n3)
      have ga3 : upd H9 a3 (.lst [.int 0, .int 2]) a3 = some (.lst [.int 0, .int 2]) := upd_same
      have hp7 := (upd_ne (o := .lst [.int 0, .int 2]) (ne_of_none hp7 n3)).trans hp7
      have ga1 := (upd_ne (o := .lst [.int 0, .int 2]) (ne_of_none ga1 n3)).trans ga1
      have ga2 := (upd_ne (o := .lst [.int 0, .int 2]) (ne_of_none ga2 n3)).trans ga2
      generalize upd H9 a3 (.lst [.int 0, .int 2]) = H10 at hB10 y10 ga3 hp7 ga1 ga2 ⊢
      obtain ⟨m, hm, em⟩ := pick (xs := [(0 : Int), 2]) (i := deed - 4) (by omega) (by show deed - 4 < 2; omega)
      have hm2 : 0 ≤ m ∧ m ≤ 2 := by
        simp only [List.mem_cons, List.not_mem_nil, or_false] at hm
        omega
      have l1 : (((sV (Txt.split z lineS)).drop kn).take 1).length ≤ 1 := List.length_take_le ..
      refine ⟨_, rfl, _, _, rfl, rfl, a3, _, _, .int m, rfl, rfl, SqL.of ga3, atI_map (f := V.int) em, a2, m, _, rfl, rfl, ga2, by omega, by omega, ?_, fun a4 n4 => ?_⟩
      · have := Nat.mul_le_mul l1 (show m.toNat ≤ 2 by omega)
        omega
      have hB11 := box_new (o := .lst (List.replicate m.toNat (((sV (Txt.split z lineS)).drop kn).take 1)).flatten) hB10 n4
      have y11 := y10.trans (kb_new (b := b) (l := l) (o := .lst (List.replicate m.toNat (((sV (Txt.split z lineS)).drop kn).take 1)).flatten) n4)
      have ga4 : upd H10 a4 (.lst (List.replicate m.toNat (((sV (Txt.split z lineS)).drop kn).take 1)).flatten) a4 = some (.lst (List.replicate m.toNat (((sV (Txt.split z lineS)).drop kn).take 1)).flatten) := upd_same
      have hp7 := (upd_ne (o := .lst (List.replicate m.toNat (((sV (Txt.split z lineS)).drop kn).take 1)).flatten) (ne_of_none hp7 n4)).trans hp7
      have ga1 := (upd_ne (o := .lst (List.replicate m.toNat (((sV (Txt.split z lineS)).drop kn).take 1)).flatten) (ne_of_none ga1 n4)).trans ga1
      generalize upd H10 a4 (.lst (List.replicate m.toNat (((sV (Txt.split z lineS)).drop kn).take 1)).flatten) = H11 at hB11 y11 ga4 hp7 ga1 ⊢
      have l4 : (List.replicate m.toNat (((sV (Txt.split z lineS)).drop kn).take 1)).flatten.length ≤ 2 := by
        have rl : ∀ (j : Nat) (L : List V), L.length ≤ 1 → (List.replicate j L).flatten.length ≤ j := fun j L hL => by
          induction j with
          | zero => exact Nat.le_refl _
          | succ j ih => rw [List.replicate_succ, List.flatten_cons, List.length_append]; omega
        have := rl m.toNat _ l1
        omega
      have l3 : ((sV (Txt.split z lineS)).take kn).length ≤ 400002 := by rw [List.length_take, hsl]; omega
      refine ⟨a1, a4, _, _, rfl, rfl, ga1, ga4, by omega, fun a5 n5 => ?_⟩
      have hB12 := box_new (o := .lst ((sV (Txt.split z lineS)).take kn ++ (List.replicate m.toNat (((sV (Txt.split z lineS)).drop kn).take 1)).flatten)) hB11 n5
      have y12 := y11.trans (kb_new (b := b) (l := l) (o := .lst ((sV (Txt.split z lineS)).take kn ++ (List.replicate m.toNat (((sV (Txt.split z lineS)).drop kn).take 1)).flatten)) n5)
      have ga5 : upd H11 a5 (.lst ((sV (Txt.split z lineS)).take kn ++ (List.replicate m.toNat (((sV (Txt.split z lineS)).drop kn).take 1)).flatten)) a5 = some (.lst ((sV (Txt.split z lineS)).take kn ++ (List.replicate m.toNat (((sV (Txt.split z lineS)).drop kn).take 1)).flatten)) := upd_same
      have hp7 := (upd_ne (o := .lst ((sV (Txt.split z lineS)).take kn ++ (List.replicate m.toNat (((sV (Txt.split z lineS)).drop kn).take 1)).flatten)) (ne_of_none hp7 n5)).trans hp7
      generalize upd H11 a5 (.lst ((sV (Txt.split z lineS)).take kn ++ (List.replicate m.toNat (((sV (Txt.split z lineS)).drop kn).take 1)).flatten)) = H12 at hB12 y12 ga5 hp7 ⊢
      refine ⟨_, rfl, _, rfl, _, _, rfl, rfl, (kn : Int) + 1, rfl, p, _, rfl, SqL.of hp7, fun a6 n6 => ?_⟩
      rw [show (some ((kn : Int) + 1)) = some (((kn + 1 : Nat) : Int)) from rfl, cut_fromN]
      have hB13 := box_new (o := .lst ((sV (Txt.split z lineS)).drop (kn + 1))) hB12 n6
      have y13 := y12.trans (kb_new (b := b) (l := l) (o := .lst ((sV (Txt.split z lineS)).drop (kn + 1))) n6)
      have ga6 : upd H12 a6 (.lst ((sV (Txt.split z lineS)).drop (kn + 1))) a6 = some (.lst ((sV (Txt.split z lineS)).drop (kn + 1))) := upd_same
      have ga5 := (upd_ne (o := .lst ((sV (Txt.split z lineS)).drop (kn + 1))) (ne_of_none ga5 n6)).trans ga5
      generalize upd H12 a6 (.lst ((sV (Txt.split z lineS)).drop (kn + 1))) = H13 at hB13 y13 ga6 ga5 ⊢
      have l6 : ((sV (Txt.split z lineS)).drop (kn + 1)).length ≤ 400002 := by rw [List.length_drop, hsl]; omega
      refine ⟨a5, a6, _, _, rfl, rfl, ga5, ga6, by rw [List.length_append]; omega, fun a7 n7 => ?_⟩
      have hB14 := box_new (o := .lst (((sV (Txt.split z lineS)).take kn ++ (List.replicate m.toNat (((sV (Txt.split z lineS)).drop kn).take 1)).flatten) ++ (sV (Txt.split z lineS)).drop (kn + 1))) hB13 n7
      have y14 := y13.trans (kb_new (b := b) (l := l) (o := .lst (((sV (Txt.split z lineS)).take kn ++ (List.replicate m.toNat (((sV (Txt.split z lineS)).drop kn).take 1)).flatten) ++ (sV (Txt.split z lineS)).drop (kn + 1))) n7)
      have en : ((sV (Txt.split z lineS)).take kn ++ (List.replicate m.toNat (((sV (Txt.split z lineS)).drop kn).take 1)).flatten) ++ (sV (Txt.split z lineS)).drop (kn + 1) = sV ((Txt.split z lineS).take kn ++ (List.replicate m.toNat (((Txt.split z lineS).drop kn).take 1)).flatten ++ (Txt.split z lineS).drop (kn + 1)) := by
        simp only [sV, List.map_append, List.map_take, List.map_drop, List.map_flatten, List.map_replicate]
      obtain ⟨o1, o2, o3⟩ := twice_ok sz (k := kn) (m := m.toNat) (by omega) _ rfl
      have ls : lineS.length = 1 := by decide +kernel
      refine ⟨_, a7, _, rfl, rfl, .inl (SqL.of (by rw [upd_same, en])), ?_, k _ _ o1 o2 hB14 y14⟩
      rw [show (Str.ofString "\n").length = 1 from ls]
      omega
    -- two signs turned round
    rw [decide_eq_false h6]
    refine iteF ?_
    simp only [tNoPart]
    have c2 := cutS_len z (some (place + 2)) none
    have c3 : (cutS z (some place) (some (place + 2))).length ≤ 2 := by
      obtain ⟨pn, rfl⟩ := Int.eq_ofNat_of_zero_le p0
      exact cutS_two z pn
    have c4 := revS_len c3
    refine ⟨_, rfl, _, rfl, place, rfl, z, rfl, by omega, _, rfl, _, rfl, place, rfl, _, rfl, _, _, rfl, rfl, place + 2, rfl, z, rfl, by omega, _, rfl, c3, _, _, rfl, rfl, by omega, _, rfl, _, rfl, _, _, rfl, rfl, place + 2, rfl, z, rfl, by omega, _, _, rfl, rfl, by rw [lenA]; omega, ?_⟩
    exact k _ _ (sgA (sgA (sgC sz _ _) fun c hc => sgC sz _ _ c (revS_mem hc)) (sgC sz _ _)) (by rw [lenA, lenA]; omega) hB7 y7
end
end TG

namespace TG
open PySem PySem.Spec PyProof.Rows L2 NdefX GenW Gx Lv
/-! ### what is due of a text -/
def rLenStr : List V → Hp → VK → Prop := fun xs H Q => ∃ z, xs = [V.str z] ∧ z.length ≤ sizeLine ∧ Q (.int (z.length : Nat)) H
/-- rows at new tuples -/
structure RowsN (H H' : Hp) (ps : List Addr) (rows : List (List Str)) : Prop where
  len : ps.length = rows.length
  row : ∀ (i : Nat) (q : Addr) (z : List Str), ps[i]? = some q → rows[i]? = some z → H' q = some (.tup (sV z))
theorem one_eq (c d : Nat) {y : Str} (hy : y = ⟨#[d]⟩) : decide (V.str ⟨#[c]⟩ = V.str y) = decide (c = d) := by
  subst hy
  by_cases h : c = d
  · subst h; simp
  · rw [decide_eq_false h, decide_eq_false (fun q => h (by injection q with q; injection q with q; simpa using q))]
theorem rowsMap_inj : ∀ {a b : List (List Str)}, a.map (List.map cl) = b.map (List.map cl) → a = b
  | [], [], _ => rfl
  | [], _ :: _, h => by cases h
  | _ :: _, [], h => by cases h
  | x :: a, y :: b, h => by
    injection h with h1 h2
    rw [rowsMap_inj h2]
    congr 1
    clear h2
    induction x generalizing y with
    | nil => cases y with
      | nil => rfl
      | cons _ _ => cases h1
    | cons u x ih => cases y with
      | nil => cases h1
      | cons v y =>
        injection h1 with e1 e2
        rw [str_ext e1, ih y e2]
theorem RowsAt.ex {cs : List (Addr × Addr)} {ps : List Addr} {rows : List (List Str)} {H H' : Hp} (t : RowsAt ps rows H) (x : Ex cs H H') : RowsAt ps rows H' := ⟨t.len, fun i q z h1 h2 => x.tup (t.row i q z h1 h2)⟩
theorem RowsAt.upd {ps : List Addr} {rows : List (List Str)} {H : Hp} (t : RowsAt ps rows H) {a : Addr} {xs : List V} {o : HO} (h : H a = some (.lst xs)) : RowsAt ps rows (upd H a o) := ⟨t.len, fun i q z h1 h2 => by
  have e := t.row i q z h1 h2
  rw [upd_ne (fun q => by rw [q, h] at e; cases e)]
  exact e⟩
section
variable {P : Program} {w : World} {K : PySem.W.Frag} {mg : Str → Option Value} {base : Heap} {cs : List (Addr × Addr)}
def spDueT (cs : List (Addr × Addr)) : Sp := fun vs H Q _ => ∃ (z : Str), vs = [.str z] ∧ Tabs cs H ∧ TxtSg z ∧ z.length ≤ 1000000 ∧
  (GoodR (rowsT z) → ∀ (r : Addr) (ps : List Addr) (H' : Hp), Ex cs H H' → H r = none → H' r = some (.lst (ps.map V.ref)) → RowsAt ps (rowsT z) H' → Q (.ref r) H') ∧
  ∀ n, BadAt (rowsT z) n → ∀ (t : Addr) (H' : Hp), Ex cs H H' → H t = none → H' t = some (.tup [.str "BadText", .int (n : Nat)]) → Q (.ref t) H'
abbrev nmDueT : List Str := ["_law_text", "_law_found", "_law_row_here", "_law_cell_here", "_law_sign_here", "_law_number", "_law_one"]
theorem sc_dueT : FnScope nmDueT ["_law_text"] (defScope s_due) := ⟨rfl, rfl, rfl, by decide +kernel, rfl, by decide +kernel, by decide +kernel⟩
theorem ok_dueT {f : Addr} {fd : FuncData} (T : Txt mg) (F : Fun K "_law_due" "_law_due" s_due f fd) : FnOk P w K mg base CX0 1 f fd ["_law_text"] (spDueT cs) := by
  refine F.ok sc_dueT (fun vs H Q E h => ?_) (fun cdv A outer s H vs Q E hr h => ?_)
  · obtain ⟨z, rfl, _⟩ := h
    rfl
  · obtain ⟨z, rfl, hT, sz, hz, kg, kb⟩ := h
    have nd := sc_dueT.nd
    refine ⟨_, (pss_cons (ps_par3 (i := 1) (j := 2) (l := 3) rfl nd rfl rfl rfl (by decide) (by decide) (by decide) rfl rfl rfl (pa_cons (pe_lst pa_nil) (pa_cons (pe_lst pa_nil) (pa_cons pe_str pa_nil))) (by rfl))
      (pss_cons (ps_for PassesOwn.never rfl (pi_str (pe_op op_add_str (pv 0) pe_str)) (pg_name (i := 4) nd rfl (.inl rfl))
      (pss_one (ps_if (pt_cmpR op_eq (pv 4) pe_str (nomark _)) (pss_cons (ps_expr (pe_bm PySem.F.plainAttrs_list PySem.F.slot_list_append PySem.F.type_list_append mt_append (pv 2) (pa_cons (pv 3) pa_nil)))
      (pss_one (ps_set (i := 3) nd rfl (.inl rfl) pe_str))) (pss_one (ps_if (pt_cmpR op_eq (pv 4) pe_str (nomark _)) (pss_cons (ps_expr (pe_bm PySem.F.plainAttrs_list PySem.F.slot_list_append PySem.F.type_list_append mt_append (pv 1) (pa_cons (pe_callTy call_tuple_of (by rfl) T.tuple (by decide +kernel) (pa_cons (pe_op op_cat (pv 2) (pe_lst (pa_cons (pv 3) pa_nil))) pa_nil)) pa_nil)))
      (pss_one (ps_par (i := 2) (j := 3) rfl nd rfl rfl (by decide) rfl rfl (pa_cons (pe_lst pa_nil) (pa_cons pe_str pa_nil)) (by rfl)))) (pss_one (ps_set (i := 3) nd rfl (.inl rfl) (pe_op op_add_str (pv 3) (pv 4)))))))))
      (pss_cons (ps_for PassesOwn.never rfl (pi_range1 (by rfl) T.range (pa_cons (pe_callB call_len_seq (by rfl) T.len PySem.boot_len (pa_cons (pv 1) pa_nil)) pa_nil)) (pg_name (i := 5) nd rfl (.inl rfl))
      (pss_one (ps_if (PW.pt (pw_or (pt_cmpR op_eq (pv 5) pe_int (nomark _)) (pw_or (pt_cmpR op_gt (pe_callB call_len_seq (by rfl) T.len PySem.boot_len (pa_cons (pe_ix ix_list (pv 1) (pv 5) (fun _ _ => rfl)) pa_nil)) pe_int (nomark _)) (pw_or1 (pt_cmpR op_gt (pe_callB (cr_max rfl) (by rfl) T.max (by decide +kernel) (pa_cons (pe_lc (own := [("_law_one", 6)]) (g := gName 6) (tt := tYes) rfl nd (pi_tup (pe_ix ix_list (pv 1) (pv 5) (fun _ _ => rfl))) (blkOk_by (own := [("_law_one", 6)]) (N := nmDueT) (sc := defScope s_due) (by decide +kernel)) (fun _ _ _ _ _ => pg_name (i := 6) nd rfl (Or.inl rfl)) (fun _ _ _ _ _ => pts_nil) (fun _ _ _ _ _ => pe_callB (r := rLenStr) call_len_str (by rfl) T.len PySem.boot_len (pa_cons (pv 6) pa_nil))) pa_nil)) pe_int (nomark _)))))) (pss_one (ps_ret (pe_tup (pa_cons pe_str (pa_cons (pv 5) pa_nil))))) pss_nil)))
      (pss_one (ps_ret (pv 1)))))), ?_⟩
    have szl : (10000000 : Nat) < sizeLine := by decide
    refine ⟨small0, fun D nD => ⟨small0, fun D2 nD2 => ⟨_, _, _, rfl, _, rfl, _, _, rfl, rfl, ?_, ?_⟩⟩⟩
    · rw [len_cl ("\n" : Str), show (cl ("\n" : Str)).length = 1 from by decide +kernel]; omega
    have cz : cl (z ++ ("\n" : Str)) = cl z ++ [10] := by rw [show cl (z ++ ("\n" : Str)) = cl z ++ cl ("\n" : Str) from cl_app _ _]; congr 1
    have lz : (cl z).length = z.length := (len_cl z).symm
    have e9 : ("\t" : Str) = ⟨#[9]⟩ := by decide +kernel
    have e10 : ("\n" : Str) = ⟨#[10]⟩ := by decide +kernel
    have x0 := (Ex.laid (o := .lst []) hT nD)
    have x1 := x0.trans (Ex.laid (o := .lst []) x0.tab nD2)
    have nDD : D2 ≠ D := fun e => by rw [e, upd_same] at nD2; cases nD2
    have hD1 : (upd (upd H D (.lst [])) D2 (.lst [])) D = some (.lst (([] : List Addr).map V.ref)) := by rw [upd_ne nDD.symm, upd_same]; rfl
    have n20 : H D2 = none := x0.old _ nD2
    refine ⟨_, rfl, for_it (walk_str (z := z ++ ("\n" : Str))) (fun i σ H' => ∃ (D2' : Addr) (F : List (List Str)) (ps : List Addr) (R : List Str) (C : Str) (c4 c5 c6 : Option V), σ = [some (.str z), some (.ref D), some (.ref D2'), some (.str C), c4, c5, c6] ∧ Ex cs H H' ∧ H' D = some (.lst (ps.map V.ref)) ∧ RowsAt ps F H' ∧ H' D2' = some (.lst (sV R)) ∧ D2' ≠ D ∧ H D2' = none ∧
      (F.map (List.map cl)) ++ goR (R.map cl) (cl C) ((cl z ++ [10]).drop i) = (rowsT z).map (List.map cl) ∧ C.length ≤ i ∧ R.length ≤ i ∧ F.length ≤ i)
      ⟨D2, [], [], [], _, _, _, _, rfl, x1, hD1, ⟨rfl, fun i q z h1 h2 => by cases h1⟩, upd_same, nDD, n20, by rw [rowsT_cl]; rfl, by decide +kernel, Nat.le_refl _, Nat.le_refl _⟩ (fun _ _ _ _ _ => trivial) ?_ ?_⟩
    · rintro i v σ H3 H4 hi ⟨D2', F, ps, R, C, c4, c5, c6, rfl, x3, hD, hF, hR, ne2, n2, hgo, hC, hRl, hFl⟩ ⟨rfl, c, hc, rfl⟩
      have hc2 : (cl z ++ [10])[i]? = some c := by rw [← cz, Array.getElem?_toList]; exact hc
      have hil := (List.getElem?_eq_some_iff.mp hc2).1
      rw [List.length_append, lz, List.length_singleton] at hil
      have hdr : (cl z ++ [10]).drop i = c :: (cl z ++ [10]).drop (i + 1) := by
        rw [List.drop_eq_getElem_cons (List.getElem?_eq_some_iff.mp hc2).1]
        congr 1
        exact (List.getElem?_eq_some_iff.mp hc2).2
      rw [hdr] at hgo
      unfold goR at hgo
      have psl := hF.len
      refine ⟨_, rfl, rfl, _, rfl, ?_⟩
      rw [one_eq c 9 e9]
      by_cases h9 : c = 9
      · rw [if_pos h9] at hgo
        rw [decide_eq_true h9]
        refine iteT ⟨_, rfl, .inl ⟨rfl, _, SqL.of hR⟩, _, rfl, D2', sV R, .str C, rfl, rfl, hR, by rw [List.length_map]; omega, ?_⟩
        refine ⟨D2', F, ps, R ++ [C], _, _, _, _, rfl, ex_new hT x3 n2, by rw [upd_ne ne2.symm]; exact hD, hF.upd hR, by rw [upd_same]; simp [sV], ne2, n2, ?_, by show (0 : Nat) ≤ _; omega, by rw [List.length_append, List.length_singleton]; omega, by omega⟩
        rw [List.map_append]
        exact hgo
      rw [if_neg h9] at hgo
      rw [decide_eq_false h9]
      refine iteF ⟨_, rfl, rfl, _, rfl, ?_⟩
      rw [one_eq c 10 e10]
      by_cases h10 : c = 10
      · rw [if_pos h10] at hgo
        rw [decide_eq_true h10]
        refine iteT ⟨_, rfl, .inl ⟨rfl, _, SqL.of hD⟩, _, rfl, _, rfl, by show 1 ≤ sizeLine; decide, fun q nq => ?_⟩
        have y1 := x3.trans (Ex.laid (o := .lst [.str C]) x3.tab nq)
        have hq1 : upd H4 q (.lst [.str C]) q = some (.lst (sV [C])) := upd_same
        have hR1 := (upd_ne (o := .lst [.str C]) (ne_of_none hR nq)).trans hR
        have hD1 := (upd_ne (o := .lst [.str C]) (ne_of_none hD nq)).trans hD
        have hF1 := hF.ex (Ex.laid (o := .lst [.str C]) x3.tab nq)
        generalize upd H4 q (.lst [.str C]) = H5 at y1 hq1 hR1 hD1 hF1 ⊢
        refine ⟨D2', q, _, _, rfl, rfl, hR1, hq1, by rw [List.length_map]; show _ + 1 ≤ sizeLine; omega, fun q2 nq2 => ?_⟩
        have ea : sV R ++ sV [C] = sV (R ++ [C]) := by simp [sV]
        rw [ea]
        have y2 := y1.trans (Ex.laid (o := .lst (sV (R ++ [C]))) y1.tab nq2)
        have hq2 : upd H5 q2 (.lst (sV (R ++ [C]))) q2 = some (.lst (sV (R ++ [C]))) := upd_same
        have hD2 := (upd_ne (o := .lst (sV (R ++ [C]))) (ne_of_none hD1 nq2)).trans hD1
        have hF2 := hF1.ex (Ex.laid (o := .lst (sV (R ++ [C]))) y1.tab nq2)
        generalize upd H5 q2 (.lst (sV (R ++ [C]))) = H6 at y2 hq2 hD2 hF2 ⊢
        refine ⟨q2, _, rfl, .inl ⟨SqL.of hq2, fun t nt => ?_⟩⟩
        have y3 := y2.trans (Ex.laid (o := .tup (sV (R ++ [C]))) y2.tab nt)
        have ht3 : upd H6 t (.tup (sV (R ++ [C]))) t = some (.tup (sV (R ++ [C]))) := upd_same
        have hD3 := (upd_ne (o := .tup (sV (R ++ [C]))) (ne_of_none hD2 nt)).trans hD2
        have hF3 := hF2.ex (Ex.laid (o := .tup (sV (R ++ [C]))) y2.tab nt)
        generalize upd H6 t (.tup (sV (R ++ [C]))) = H7 at y3 ht3 hD3 hF3 ⊢
        refine ⟨D, ps.map V.ref, .ref t, rfl, rfl, hD3, by rw [List.length_map]; omega, ?_⟩
        have y4 := ex_new (o := .lst (ps.map V.ref ++ [.ref t])) hT y3 nD
        have hD4 : upd H7 D (.lst (ps.map V.ref ++ [.ref t])) D = some (.lst ((ps ++ [t]).map V.ref)) := by rw [upd_same, List.map_append]; rfl
        have hF4 : RowsAt (ps ++ [t]) (F ++ [R ++ [C]]) (upd H7 D (.lst (ps.map V.ref ++ [.ref t]))) := by
          have hF5 := hF3.upd (o := .lst (ps.map V.ref ++ [.ref t])) hD3
          refine ⟨by rw [List.length_append, List.length_append, hF3.len]; rfl, fun i' q' r' h1 h2 => ?_⟩
          by_cases hl : i' < ps.length
          · rw [List.getElem?_append_left hl] at h1
            rw [List.getElem?_append_left (by have := hF3.len; omega)] at h2
            exact hF5.row i' q' r' h1 h2
          · have hl2 := (List.getElem?_eq_some_iff.mp h1).1
            rw [List.length_append, List.length_singleton] at hl2
            have ei : i' = ps.length := by omega
            subst ei
            rw [List.getElem?_append_right (Nat.le_refl _), Nat.sub_self] at h1
            rw [List.getElem?_append_right (by have := hF3.len; omega), show ps.length - F.length = 0 from by have := hF3.len; omega] at h2
            cases h1
            cases h2
            rw [upd_ne (fun q => by rw [q, hD3] at ht3; cases ht3)]
            exact ht3
        generalize upd H7 D (.lst (ps.map V.ref ++ [.ref t])) = H8 at y4 hD4 hF4 ⊢
        refine ⟨small0, fun D3 nD3 => ⟨_, _, rfl, ?_⟩⟩
        have y5 := y4.trans (Ex.laid (o := .lst []) y4.tab nD3)
        refine ⟨D3, F ++ [R ++ [C]], ps ++ [t], [], _, _, _, _, rfl, y5, (upd_ne (ne_of_none hD4 nD3)).trans hD4, hF4.ex (Ex.laid (o := .lst []) y4.tab nD3), upd_same, fun e => (by rw [e, hD4] at nD3; cases nD3), y4.old _ nD3, ?_, by show (0 : Nat) ≤ _; omega, by show (0 : Nat) ≤ _; omega, by rw [List.length_append, List.length_singleton]; omega⟩
        rw [List.map_append, List.append_assoc]
        have ce : cl ("" : Str) = [] := by decide +kernel
        have er : (R ++ [C]).map cl = R.map cl ++ [cl C] := by rw [List.map_append]; rfl
        rw [show cl (Str.ofString "") = [] from ce]
        show F.map (List.map cl) ++ ((R ++ [C]).map cl :: goR [] [] ((cl z ++ [10]).drop (i + 1))) = _
        rw [er]
        exact hgo
      rw [if_neg h10] at hgo
      rw [decide_eq_false h10]
      refine iteF ⟨_, rfl, _, rfl, _, _, rfl, rfl, ?_, ?_⟩
      · show C.length + 1 ≤ sizeLine; omega
      refine ⟨D2', F, ps, R, _, _, _, _, rfl, x3, hD, hF, hR, ne2, n2, ?_, ?_, by omega, by omega⟩
      · rw [show cl (C ++ (⟨#[c]⟩ : Str)) = cl C ++ [c] from cl_app _ _]
        exact hgo
      · have : (C ++ (⟨#[c]⟩ : Str)).length = C.length + 1 := by rw [len_cl, show cl (C ++ (⟨#[c]⟩ : Str)) = cl C ++ [c] from cl_app _ _, List.length_append, ← len_cl]; rfl
        omega
    rintro σ H3 ⟨D2', F, ps, R, C, c4, c5, c6, rfl, x3, hD, hF, hR, ne2, n2, hgo, hC, hRl, hFl⟩
    have hend : (cl z ++ [10]).drop (z ++ ("\n" : Str)).cps.size = [] := List.drop_eq_nil_of_le (by rw [← cz]; simp [cl])
    rw [hend, show goR (R.map cl) (cl C) [] = [] from rfl, List.append_nil] at hgo
    have eF := rowsMap_inj hgo
    subst eF
    clear hgo hR ne2 n2 hC hRl hend
    have hpsl := hF.len
    have hsl : (ps.map V.ref).length = (rowsT z).length := by rw [List.length_map]; exact hpsl
    obtain ⟨l1, l2⟩ := rowsT_len hz
    have hpp := (rowsT_pos z).2
    refine ⟨_, rfl, D, _, rfl, .inl (SqL.of hD), _, rfl, by omega, by omega, for_range (n := (((ps.map V.ref).length : Nat) : Int).toNat) (fun j σ H' => ∃ (c4 c5 c6 : Option V), σ = [some (.str z), some (.ref D), some (.ref D2'), some (.str C), c4, c5, c6] ∧ Ex cs H3 H' ∧ j ≤ 30 ∧ ∀ i r, i < j → (rowsT z)[i]? = some r → fitR r = true) ⟨_, _, _, rfl, Ex.refl x3.tab, Nat.zero_le _, fun i r h => absurd h (Nat.not_lt_zero _)⟩ ?_ ?_⟩
    · rintro j σ H4 hj ⟨d4, d5, d6, rfl, x4, hj30, hok⟩
      have hj2 : j < (rowsT z).length := by omega
      obtain ⟨r, hr2⟩ := getP hj2
      obtain ⟨q, hq⟩ := getP (xs := ps) (i := j) (by omega)
      have hD4 := x4.lst hD
      have hq4 := x4.tup (hF.row j q r hq hr2)
      have rm := List.mem_of_getElem? hr2
      have at4 : atI (ps.map V.ref) (0 + (j : Nat)) = some (V.ref q) := by
        rw [Int.zero_add]
        exact atI_nat (by rw [List.getElem?_map, hq]; rfl)
      have bad : ∀ (H5 : Hp), Ex cs H3 H5 → BadAt (rowsT z) j → ∀ t, H5 t = none → Q (.ref t) (upd H5 t (.tup [.str "BadText", .int (0 + (j : Nat))])) := fun H5 x5 B t nt => by
        rw [Int.zero_add]
        exact kb j B t _ ((x3.trans x5).trans (Ex.laid (x3.trans x5).tab nt)) ((x3.trans x5).old _ nt) upd_same
      refine ⟨_, rfl, rfl, ?_⟩
      by_cases h30 : j = 30
      · refine ⟨true, by rw [decide_eq_true (by rw [h30]; rfl)], iteT (iteT ⟨_, rfl, by show 2 ≤ sizeLine; decide, fun t nt => bad H4 x4 ⟨hj2, hj30, .inl h30, hok⟩ t nt⟩)⟩
      refine ⟨false, by rw [decide_eq_false (fun e => by injection e with e; omega)], iteF ⟨_, rfl, _, rfl, D, _, _, .ref q, rfl, rfl, SqL.of hD4, at4, q, _, rfl, .inr (.inl (.inl hq4)), _, _, rfl, rfl, decide ((6 : Int) < ((sV r).length : Nat)), rfl, ?_⟩⟩
      have hrl : (sV r).length = r.length := List.length_map ..
      by_cases h6 : r.length ≤ 6
      · rw [decide_eq_false (by omega)]
        refine iteF ⟨_, rfl, _, rfl, D, _, _, .ref q, rfl, rfl, SqL.of hD4, at4, q, rfl, ⟨_, .inl (.inl hq4)⟩, fun D4 nD4 => lc_tup (xs := sV r) (fun i H' => Ex cs H4 H' ∧ H' D4 = some (.lst (((r.take i).map (fun x => ((x.length : Nat) : Int))).map V.int))) ⟨Ex.laid x4.tab nD4, upd_same⟩ (fun i H' _ x => .inl (.inl (x.1.tup hq4))) ?_ ?_⟩
        · rintro i v H9 hv ⟨x9, hD9⟩
          obtain ⟨x, hx, rfl⟩ := get_map hv
          have hx2 := (rowsT_sg sz r rm x (List.mem_of_getElem? hx)).2
          refine ⟨rfl, _, rfl, x, rfl, by omega, _, hD9, ?_, ex_new x4.tab x9 nD4, ?_⟩
          · rw [List.length_map, List.length_map, List.length_take]; omega
          · rw [upd_same, List.take_add_one, hx]
            simp
        · rintro H9 ⟨x9, hD9⟩
          have e9 : r.take (sV r).length = r := List.take_of_length_le (by rw [hrl]; exact Nat.le_refl _)
          rw [e9] at hD9
          refine ⟨D4, _, rfl, SqL.of hD9, by rw [List.length_map]; exact hpp r rm, fun m hm hle => ⟨_, _, rfl, rfl, decide ((10 : Int) < m), rfl, ?_⟩⟩
          have x49 := x4.trans x9
          by_cases hm10 : (10 : Int) < m
          · rw [decide_eq_true hm10]
            refine iteT ⟨_, rfl, by show 2 ≤ sizeLine; decide, fun t nt => bad H9 x49 ⟨hj2, hj30, .inr ⟨r, hr2, ?_⟩, hok⟩ t nt⟩
            obtain ⟨x, hx, ex⟩ := List.mem_map.mp hm
            unfold fitR
            rw [Bool.and_eq_false_iff]
            right
            rw [List.all_eq_false]
            exact ⟨x, hx, by simp; omega⟩
          · rw [decide_eq_false hm10]
            refine iteF ⟨_, _, _, rfl, x49, by omega, fun i r' hi hr' => ?_⟩
            by_cases e : i = j
            · subst e
              rw [hr2] at hr'
              cases hr'
              unfold fitR
              rw [decide_eq_true h6, Bool.true_and, List.all_eq_true]
              intro x hx
              have := hle _ (List.mem_map.mpr ⟨x, hx, rfl⟩)
              exact decide_eq_true (by omega)
            · exact hok i r' (by omega) hr'
      · rw [decide_eq_true (by omega)]
        refine iteT (iteT ⟨_, rfl, by show 2 ≤ sizeLine; decide, fun t nt => bad H4 x4 ⟨hj2, hj30, .inr ⟨r, hr2, ?_⟩, hok⟩ t nt⟩)
        unfold fitR
        rw [decide_eq_false h6, Bool.false_and]
    · rintro σ H4 ⟨d4, d5, d6, rfl, x4, hj30, hok⟩
      rw [hsl] at hj30 hok
      refine ⟨_, rfl, kg ⟨by omega, fun r hr => ?_⟩ D ps H4 (x3.trans x4) nD (x4.lst hD) (hF.ex x4)⟩
      obtain ⟨i, hi, e⟩ := List.getElem_of_mem hr
      exact hok i r (by omega) (by rw [List.getElem?_eq_getElem hi, e])
end
end TG

namespace TG
open PySem PySem.Spec PyProof.Rows L2 NdefX GenW Gx Lv
/-! ### the law of texts that are read -/
def lamIf2 : Stmt → LamT
  | .If (.UnaryOp _ (.Call _ [.Call _ [.Lambda p b sc _] _ _, _] _ _) _) _ _ _ => (p, b, sc)
  | _ => ({ posonlyargs := [], args := [], vararg := none, kwonlyargs := [], kw_defaults := [], kwarg := none, defaults := [] }, .Name "x" ⟨0, 0, 0, 0⟩, sc00)
def forBody : Stmt → List Stmt
  | .For _ _ b _ _ => b
  | _ => []
def stAt (l : List Stmt) (i : Nat) : Stmt := l.getD i (.Pass ⟨0, 0, 0, 0⟩)
abbrev lawL1 : LamT := lamIf2 (stAt (forBody (stAt (forBody (stAt (defBody s_law) 1)) 7)) 0)
abbrev lawQ : Str := ("law" : Str) ++ ".<locals>." ++ "<lambda>"
abbrev capT : List Str := ["_law_text"]
theorem sc_l1 : NScope capT [] capT lawL1.2.2 := nscope_by (by decide +kernel)
theorem told_ex {cs : List (Addr × Addr)} {H H' : Hp} {cl : List (Addr × Obj)} (x : Ex cs (addC H cl) H') : ∀ c o, cl.lookup c = some o → H' c = some (cellF o) := fun c o e => x.ext _ _ (addC_in e) fun ps z => by cases z
theorem del_add {H : Hp} {cl : List (Addr × Obj)} (un : ∀ c o, cl.lookup c = some o → H c = none) : delC (addC H cl) cl = H := by
  funext b
  cases r : cl.lookup b with
  | some u => rw [delC_in r]; exact (un b u r).symm
  | none => rw [delC_out r, addC_out r]
section
variable {P : Program} {w : World} {K : PySem.W.Frag} {mg : Str → Option Value} {base : Heap} {cs : List (Addr × Addr)}
def spLamR (cs : List (Addr × Addr)) (C : Addr) (F : NF) : Sp := fun vs H Q E => vs = [] ∧ ∃ (z : Str) (cl : List (Addr × Obj)), Caught F capT [some (.str z)] cl H ∧
  Tabs cs (delC H cl) ∧ z.length ≤ 1000000 ∧ TxtSg z ∧
  (GoodR (rowsT z) → ∀ (r : Addr) (ps : List Addr) (H' : Hp), Ex cs (delC H cl) H' → (delC H cl) r = none → H' r = some (.lst (ps.map V.ref)) → RowsAt ps (rowsT z) H' → (∀ c o, cl.lookup c = some o → H' c = none) → Q (.ref r) (addC H' cl)) ∧
  (∀ n, BadAt (rowsT z) n → ∀ (d : Addr) (H' : Hp), Ex cs (delC H cl) H' → (delC H cl) d = none → H' d = some (.xd [("row", .int (n : Nat))]) → (∀ c o, cl.lookup c = some o → H' c = none) → E (.ref C) (some d) (addC H' cl))
theorem lok_r {q : Str} {c' f g C : Addr} {fdg : FuncData} {lc : List (Str × Addr)} (G : FnOk P w K mg base CX0 11 g fdg ["text"] (spRead K cs)) (Gx : FnOk P w K mg base (L2.CX P w) 11 g fdg ["text"] (spReadX cs C)) (kp : PySem.W.keepIn K (.ref g) = true) (bd : Binds K fdg ["text"] []) (mgg : mg "read" = some (.ref g)) :
    LOkX P w K mg base 12 f ⟨"<lambda>", q, lawL1.1, [], lawL1.2.2, lc, c'⟩ lawL1.2.1 (spLamR cs C ⟨"<lambda>", q, lawL1.1, [], lawL1.2.2, lc, c'⟩) := by
  refine lokx_of (N := capT) (fr := capT) sc_l1 (fun pm ctv => rfl) fun A outer s H Q E hr h => ?_
  obtain ⟨_, z, cl, hC, hT, hz, hs, kg, kb⟩ := h
  rcases good_or (rowsT z) with g | ⟨n, B⟩
  · refine ⟨[some (.str z)], cl, _, hC, pe_call G hr (by rfl) mgg kp bd .nil pass0 (pa_cons (pv 0) pa_nil), ?_⟩
    exact ⟨_, rfl, z, rowsT z, rfl, hT, hz, rfl, good_pg hs g, fun r ps H' x nr hr2 hrows hcl => kg g r ps H' x nr hr2 hrows hcl⟩
  · refine ⟨[some (.str z)], cl, _, hC, pe_callS Gx hr (by rfl) mgg kp bd (fun σ => passAt (takes_of rfl rfl rfl rfl) σ) (pa_cons (pv 0) pa_nil), ?_⟩
    exact ⟨_, rfl, z, n, rfl, hT, hz, hs, B, fun d H' x nd hd hcl => kb n B d H' x nd hd hcl⟩
theorem told_read {cells : List (Str × Addr)} {N : List Str} {σ : L2.St} {cl : List (Addr × Obj)} {H : Hp} {f c' g : Addr} {lc : List (Str × Addr)} {z : Str} {fdg : FuncData} {Q : VK} {E : XK} {qn : Str} {i0 : Nat}
    (G : FnOk P w K mg base CX0 11 g fdg ["text"] (spRead K cs)) (Gx : FnOk P w K mg base (L2.CX P w) 11 g fdg ["text"] (spReadX cs (He.ga K "BadText"))) (kp : PySem.W.keepIn K (.ref g) = true) (bd : Binds K fdg ["text"] []) (mgg : mg "read" = some (.ref g))
    (T : ToldC cells N capT σ cl) (un : ∀ c o, cl.lookup c = some o → H c = none) (hF : lc = cloFrom cells lawL1.2.2.names []) (hN0 : N[i0]? = some ("_law_text" : Str)) (hσ0 : σ[i0]? = some (some (.str z)))
    (hT : Tabs cs H) (hf : H f = some (FnL f ⟨"<lambda>", qn, lawL1.1, [], lawL1.2.2, lc, c'⟩ lawL1.2.1)) (hc : H c' = some (LamX.CodeO c' qn)) (hz : z.length ≤ 1000000) (hs : TxtSg z)
    (kg : GoodR (rowsT z) → ∀ (r : Addr) (ps : List Addr) (H' : Hp), Ex cs H H' → H r = none → H' r = some (.lst (ps.map V.ref)) → RowsAt ps (rowsT z) H' → (∀ c o, cl.lookup c = some o → H' c = none) → Q (.ref r) (addC H' cl))
    (kb : ∀ n, BadAt (rowsT z) n → ∀ (t : Addr) (H2 : Hp), Ex cs H (delC H2 cl) → delC H2 cl t = some (.tup [.str "BadText", .int (n : Nat)]) → Q (.ref t) H2) :
    spTells P w K mg base cs 12 [.ref f] (addC H cl) Q E := by
  refine ⟨f, _, _, _, rfl, add_at un hf, add_at un hc, lok_r G Gx kp bd mgg, fun E2 hE => ?_⟩
  have e0 : delC (addC H cl) cl = H := del_add un
  refine ⟨rfl, z, cl, caught_of T hF (fun y hy => sc_l1.free (y, .free) hy rfl) (fun y hy => PySem.mem_of_lookup (sc_l1.frk y hy)) (fun y hy => hy) rfl (fun c o e => addC_in e) (fun i y u h1 h2 => ?_), ?_⟩
  · match i, h1, h2 with
    | 0, h1, h2 =>
      cases h1
      cases h2
      exact ⟨i0, hN0, hσ0⟩
    | i + 1, h1, _ => simp at h1
  rw [e0]
  refine ⟨hT, hz, hs, fun gd r ps H' x nr hr hrows hcl => kg gd r ps H' x nr hr hrows hcl, fun n B d H' x nd hd hcl => ?_⟩
  · refine hE _ _ _ 8 n ⟨by decide, rfl, fun _ => ⟨d, rfl, add_at hcl hd⟩, fun z => absurd z (by decide)⟩ (tabs_add hcl x.tab) fun t H2 x2 nt ht => ?_
    refine kb n B t _ (x.trans (ex_del hcl (told_ex x2) x2)) ?_
    rw [delC_out (add_none nt).1]
    exact ht
theorem good_bad {rows : List (List Str)} {n : Nat} (g : GoodR rows) (B : BadAt rows n) : False := by
  rcases B.bad with h | ⟨r, h1, h2⟩
  · have := B.lt
    have := g.1
    omega
  · rw [g.2 r (List.mem_of_getElem? h1)] at h2
    cases h2
theorem rep_strs (n : Nat) (z : Str) : (List.replicate n [V.str z]).flatten = sV (List.replicate n z) := by
  induction n with
  | zero => rfl
  | succ n ih => rw [List.replicate_succ, List.flatten_cons, ih, List.replicate_succ]; rfl
theorem join_sg {y : Str} {ps : List Str} (hy : ∀ c ∈ cl y, SgOk c ∨ c = 9 ∨ c = 10) (h : ∀ p ∈ ps, TxtSg p) : TxtSg (Txt.join y ps) := fun c hc => by
  have hc : c ∈ cl (Txt.join y ps) := hc
  rw [cl_joinL] at hc
  rcases joinL_mem _ _ _ hc with q | ⟨p, hp, q⟩
  · exact hy c q
  · obtain ⟨x, hx, rfl⟩ := List.mem_map.mp hp
    exact h x hx c q
theorem join_len {y : Str} {ps : List Str} (m : Nat) (h : ∀ p ∈ ps, p.length ≤ m) : (Txt.join y ps).length ≤ ps.length * (m + y.length) := by
  rw [len_cl, cl_joinL]
  have := joinL_len (cl y) m (ps.map cl) fun p hp => by
    obtain ⟨x, hx, rfl⟩ := List.mem_map.mp hp
    rw [← len_cl]
    exact h x hx
  rw [List.length_map, ← len_cl] at this
  exact this
/-- what stands in a turn, behind a text -/
def MidT (cs : List (Addr × Addr)) (b l p : Addr) (v0 v1 v2 v3 v4 : Option V) (σ : L2.St) (H : Hp) : Prop := ∃ (tx : Str) (c5 c6 c7 c8 c10 : Option V), σ = [v0, v1, v2, v3, v4, c5, c6, c7, c8, some (.str tx), c10] ∧ BoxAt H b l ∧ Tabs cs H ∧ LamX.TabS H p lawQ ∧ TxtSg tx ∧ tx.length ≤ 16100
def spLaw (K : PySem.W.Frag) (cs : List (Addr × Addr)) (p : Addr) : Sp := fun vs H Q _ => ∃ (a : Addr) (ns : List Int), vs = [.ref a] ∧ Tabs cs H ∧ LamX.TabS H p lawQ ∧ SqL K H a (ns.map V.int) ∧ ns.length ≤ 63 ∧ ∀ H', Q (.bl true) H'
abbrev nmLaw : List Str := ["_law_script", "_law_box", "_law_turn", "_law_page_here", "_law_way", "_law_signs", "_law_change", "_law_due_here", "_law_again", "_law_text", "_law_k"]
theorem sc_law : FnScope nmLaw ["_law_script"] (defScope s_law) := ⟨rfl, rfl, rfl, by decide +kernel, rfl, by decide +kernel, by decide +kernel⟩
theorem key_l1 : ∀ y ∈ lawL1.2.2.names, y.2 = .free → (defScope s_law).names.lookup y.1 = some .cell := by decide +kernel
theorem key_c1 : ∀ y ∈ capT, (defScope s_law).names.lookup y = some .cell := by decide +kernel
theorem ok_law {f c p g1 g2 g3 g4 g5 g6 g7 g8 g9 gr : Addr} {fd fd1 fd2 fd3 fd4 fd5 fd6 fd7 fd8 fd9 fdr : FuncData} (T : Txt mg) (ne : Apart cs p) (F : Fun K "law" "law" s_law f fd) (hcode : fd.code = .ref c) (TB : LamX.TabB base mg c p)
    (G1 : FnOk P w K mg base CX0 1 g1 fd1 ["_law_script"] (spBegun K)) (k1 : PySem.W.keepIn K (.ref g1) = true) (b1 : Binds K fd1 ["_law_script"] []) (m1 : mg "_law_begun" = some (.ref g1))
    (G2 : FnOk P w K mg base CX0 1 g2 fd2 ["_law_box", "_law_many"] spTake) (k2 : PySem.W.keepIn K (.ref g2) = true) (b2 : Binds K fd2 ["_law_box", "_law_many"] []) (m2 : mg "_law_take" = some (.ref g2))
    (G3 : FnOk P w K mg base CX0 5 g3 fd3 ["_law_box", "_law_most"] spPageD) (k3 : PySem.W.keepIn K (.ref g3) = true) (b3 : Binds K fd3 ["_law_box", "_law_most"] []) (m3 : mg "_law_page" = some (.ref g3))
    (G4 : FnOk P w K mg base CX0 2 g4 fd4 ["_law_box"] spSign) (k4 : PySem.W.keepIn K (.ref g4) = true) (b4 : Binds K fd4 ["_law_box"] []) (m4 : mg "_law_sign" = some (.ref g4))
    (G5 : FnOk P w K mg base CX0 5 g5 fd5 ["_law_found", "_law_due_here"] (spAlike K 4)) (k5 : PySem.W.keepIn K (.ref g5) = true) (b5 : Binds K fd5 ["_law_found", "_law_due_here"] []) (m5 : mg "_law_alike" = some (.ref g5))
    (G6 : FnOk P w K mg base CX0 12 g6 fd6 ["page"] (spWrit K cs)) (k6 : PySem.W.keepIn K (.ref g6) = true) (b6 : Binds K fd6 ["page"] []) (m6 : mg "written" = some (.ref g6))
    (G7 : FnOk P w K mg base CX0 3 g7 fd7 ["_law_box", "_law_text"] spSpoilt) (k7 : PySem.W.keepIn K (.ref g7) = true) (b7 : Binds K fd7 ["_law_box", "_law_text"] []) (m7 : mg "_law_spoilt" = some (.ref g7))
    (G8 : FnOk P w K mg base CX0 1 g8 fd8 ["_law_text"] (spDueT cs)) (k8 : PySem.W.keepIn K (.ref g8) = true) (b8 : Binds K fd8 ["_law_text"] []) (m8 : mg "_law_due" = some (.ref g8))
    (G9 : FnOk P w K mg base CX0 13 g9 fd9 ["_law_work"] (spTells P w K mg base cs 12)) (k9 : PySem.W.keepIn K (.ref g9) = true) (b9 : Binds K fd9 ["_law_work"] []) (m9 : mg "_law_told" = some (.ref g9))
    (Gr : FnOk P w K mg base CX0 11 gr fdr ["text"] (spRead K cs)) (Grx : FnOk P w K mg base (L2.CX P w) 11 gr fdr ["text"] (spReadX cs (He.ga K "BadText"))) (kr : PySem.W.keepIn K (.ref gr) = true) (br : Binds K fdr ["text"] []) (mr : mg "read" = some (.ref gr)) :
    FnOk P w K mg base CX0 14 f fd ["_law_script"] (spLaw K cs p) := by
  refine fun_okT F hcode sc_law (fun vs H Q E h => ?_) (fun A outer s H vs Q E hr h => ?_)
  · obtain ⟨a, ns, rfl, _⟩ := h
    rfl
  · obtain ⟨a, ns, rfl, hT, hL, hS, hl, k⟩ := h
    have nd := sc_law.nd
    have hu := hr.units
    have r1 : Room 1 _ := hr.mono (by decide)
    have r2 : Room 2 _ := hr.mono (by decide)
    have r3 : Room 3 _ := hr.mono (by decide)
    have r5 : Room 5 _ := hr.mono (by decide)
    have r12 : Room 12 _ := hr.mono (by decide)
    refine ⟨_, (pss_cons (ps_set (i := 1) nd rfl (.inr rfl) (pe_call G1 r1 (by rfl) m1 k1 b1 .nil pass0 (pa_cons (pv 0) pa_nil)))
      (pss_cons (ps_for PassesOwn.never rfl (pi_range1 (by rfl) T.range (pa_cons pe_int pa_nil)) (pg_name (i := 2) nd rfl (.inl rfl))
      (pss_cons (ps_set (i := 3) nd rfl (.inl rfl) (pe_call G3 r5 (by rfl) m3 k3 b3 .nil pass0 (pa_cons (pv 1) (pa_cons (pe_ix ix_list (pe_lst (pa_cons pe_int (pa_cons pe_int (pa_cons pe_int pa_nil)))) (pe_call G2 r1 (by rfl) m2 k2 b2 .nil pass0 (pa_cons (pv 1) (pa_cons pe_int pa_nil))) (fun _ _ => rfl)) pa_nil)))) (pss_cons (ps_set (i := 9) nd rfl (.inr rfl) (pe_call G6 r12 (by rfl) m6 k6 b6 .nil pass0 (pa_cons (pv 3) pa_nil))) (pss_cons (ps_set (i := 4) nd rfl (.inl rfl) (pe_call G2 r1 (by rfl) m2 k2 b2 .nil pass0 (pa_cons (pv 1) (pa_cons pe_int pa_nil)))) (C8.pss_cut (ps_if (pt_cmpR op_eq (pv 4) pe_int (nomark _)) (pss_one (ps_set (i := 9) nd rfl (.inr rfl) (pe_join pe_str (pe_op op_rep (pe_lst (pa_cons (pv 9) pa_nil)) (pe_op op_add pe_int (pe_call G2 r1 (by rfl) m2 k2 b2 .nil pass0 (pa_cons (pv 1) (pa_cons pe_int pa_nil)))))))) pss_nil) (C8.pss_cut (ps_if (pt_cmpR op_eq (pv 4) pe_int (nomark _)) (pss_cons (ps_set (i := 5) nd rfl (.inr rfl) (pe_lst (pa_cons pe_str (pa_cons pe_str (pa_cons pe_str (pa_cons pe_str (pa_cons (pe_call G4 r2 (by rfl) m4 k4 b4 .nil pass0 (pa_cons (pv 1) pa_nil)) pa_nil)))))))
      (pss_one (ps_set (i := 9) nd rfl (.inr rfl) (pe_join pe_str (pe_lc (own := [("_law_k", 10)]) (g := gName 10) (tt := tYes) rfl nd (pi_range1 (by rfl) T.range (pa_cons (pe_call G2 r1 (by rfl) m2 k2 b2 .nil pass0 (pa_cons (pv 1) (pa_cons pe_int pa_nil))) pa_nil)) (blkOk_by (own := [("_law_k", 10)]) (N := nmLaw) (sc := defScope s_law) (by decide +kernel)) (fun _ _ _ _ _ => pg_name (i := 10) nd rfl (Or.inl rfl)) (fun _ _ _ _ _ => pts_nil) (fun _ _ _ _ _ => pe_ix (r := rIxL K) ix_list (pv 5) (pe_call G2 r1 (by rfl) m2 k2 b2 .nil pass0 (pa_cons (pv 1) (pa_cons pe_int pa_nil))) (fun _ _ => rfl))))))) pss_nil) (pss_cons (ps_for PassesOwn.never rfl (pi_range1 (by rfl) T.range (pa_cons (pe_call G2 r1 (by rfl) m2 k2 b2 .nil pass0 (pa_cons (pv 1) (pa_cons pe_int pa_nil))) pa_nil)) (pg_name (i := 6) nd rfl (.inl rfl))
      (pss_one (ps_set (i := 9) nd rfl (.inr rfl) (pe_call G7 r3 (by rfl) m7 k7 b7 .nil pass0 (pa_cons (pv 1) (pa_cons (pv 9) pa_nil))))))
      (pss_cons (ps_set (i := 7) nd rfl (.inl rfl) (pe_call G8 r1 (by rfl) m8 k8 b8 .nil pass0 (pa_cons (pv 9) pa_nil)))
      (pss_one (ps_for PassesOwn.never rfl (pi_range1 (by rfl) T.range (pa_cons pe_int pa_nil)) (pg_name (i := 8) nd rfl (.inl rfl))
      (pss_one (ps_if (pt_not (pt_val (pe_call G5 r5 (by rfl) m5 k5 b5 .nil pass0 (pa_cons (pe_callC (names := ["_law_text"]) G9 hr (by rfl) m9 k9 b9 (fun _ _ => rfl) key_c1 (pa_cons (pe_lamC TB rfl rfl fun y hy e => .inl (key_l1 y hy e)) pa_nil)) (pa_cons (pv 7) pa_nil))))) (pss_one (ps_ret pe_bl)) pss_nil))))))))))))
      (pss_one (ps_ret pe_bl)))), ?_⟩
    have szl : (10000000 : Nat) < sizeLine := by decide
    refine ⟨_, rfl, a, ns, rfl, hS, hl, fun b l H1 hB x1 nb nl => ⟨_, rfl, by decide, by decide, for_range (n := 5) (fun _ σ H' => ∃ (c2 c3 c4 c5 c6 c7 c8 c9 c10 : Option V), σ = [some (.ref a), some (.ref b), c2, c3, c4, c5, c6, c7, c8, c9, c10] ∧ BoxAt H' b l ∧ Tabs cs H' ∧ LamX.TabS H' p lawQ)
      ⟨none, none, none, none, none, none, none, none, none, rfl, hB, tabs_ext hT x1, hL.ext x1⟩ ?_ ?_⟩⟩
    · clear hB x1 nb nl
      rintro i σ H1 hi ⟨c2, c3, c4, c5, c6, c7, c8, c9, c10, rfl, hB1, hT1, hL1⟩
      refine ⟨_, rfl, line10 (by decide), fun p0 np0 => ⟨_, rfl, b, l, 3, rfl, box_new hB1 np0, by decide, by decide, fun z H2 z0 z1 hB2 x2 => ?_⟩⟩
      obtain ⟨nb, nl⟩ := new_ne hB1 np0
      have hp2 := x2 p0 _ upd_same nb nl
      have y2 := (kb_new (b := b) (l := l) (o := .lst [V.int 4, V.int 12, V.int 30]) np0).trans x2
      obtain ⟨m, hm, em⟩ := pick (xs := [(4 : Int), 12, 30]) (i := z) z0 z1
      have hm2 : 1 ≤ m ∧ m ≤ 30 := by
        simp only [List.mem_cons, List.not_mem_nil, or_false] at hm
        omega
      refine ⟨p0, _, _, .int m, rfl, rfl, SqL.of hp2, atI_map (f := V.int) em, b, l, m, rfl, hB2, hm2.1, hm2.2, fun pg as rows H3 hB3 x3 np pb pl hp hal hrow hO => ?_⟩
      have hT3 := tabs_kb (tabs_kb hT1 hB1 y2) hB2 x3
      have hL3 := tabS_kb (tabS_kb hL1 hB1 y2) hB2 x3
      have PA : PageAt K H3 pg as rows := ⟨SqL.of hp, hal, fun i q r h1 h2 => .inl (.inl (hrow i q r h1 h2))⟩
      have lpt := pageT_len hO
      have spt : TxtSg (pageT rows) := fun c hc => by
        have hc : c ∈ cl (Txt.join lineS (rows.map rowT)) := hc
        rw [cl_joinL, cl_lineS] at hc
        rcases joinL_mem _ _ _ hc with q | ⟨q, hq, h⟩
        · exact .inr (.inr (by simpa using q))
        · obtain ⟨y, hy, rfl⟩ := List.mem_map.mp hq
          obtain ⟨r, hr, rfl⟩ := List.mem_map.mp hy
          rcases rowT_sg (hO.rows r hr) c h with e | e
          · exact .inr (.inl e)
          · exact .inl e
      refine ⟨_, rfl, pg, as, rows, rfl, hT3, PA, hO, fun H4 x4 => ⟨_, rfl, b, l, 8, rfl, box_ext hB3 x4.ext, by decide, by decide, fun way H5 w0 w1 hB5 x5 => ?_⟩⟩
      have hT5 := tabs_kb x4.tab (box_ext hB3 x4.ext) x5
      have hL5 := tabS_kb (tabS_ex x4 ne hL3) (box_ext hB3 x4.ext) x5
      clear x2 x3 x4 x5 hp2 y2 hp hrow PA hT3 hL3 hB2 hB3 hT1 hL1 hB1 np0 np nb nl pb pl hm em
      generalize pageT rows = tx at lpt spt ⊢
      have e10 : ∀ c ∈ cl ("\n" : Str), SgOk c ∨ c = 9 ∨ c = 10 := fun c hc => by
        rw [show cl ("\n" : Str) = [10] from by decide +kernel, List.mem_singleton] at hc
        exact .inr (.inr hc)
      refine ⟨MidT cs b l p (some (.ref a)) (some (.ref b)) (some (.int (0 + (i : Nat)))) (some (.ref pg)) (some (.int way)), ?_, ?_⟩
      · -- several times
        refine ⟨_, rfl, rfl, _, rfl, iteB ?_ ⟨tx, _, _, _, _, _, rfl, hB5, hT5, hL5, spt, by omega⟩⟩
        refine ⟨⟨_, rfl⟩, _, rfl, by show 1 ≤ sizeLine; decide, fun q nq => ⟨_, rfl, b, l, 8, rfl, box_new hB5 nq, by decide, by decide, fun t H6 t0 t1 hB6 x6 => ⟨_, _, rfl, rfl, ?_⟩⟩⟩
        obtain ⟨qb, ql⟩ := new_ne hB5 nq
        have hq6 := x6 q _ upd_same qb ql
        have hT6 := tabs_kb (tabs_ext hT5 (same_new (o := .lst [V.str tx]) nq)) (box_new hB5 nq) x6
        have hL6 := tabS_kb (hL5.ext (same_new (o := .lst [V.str tx]) nq)) (box_new hB5 nq) x6
        refine ⟨q, 1 + t, _, rfl, rfl, hq6, by omega, by omega, by show 1 * _ ≤ sizeLine; omega, fun q2 nq2 => ?_⟩
        rw [rep_strs]
        have x7 := Ex.laid (o := .lst (sV (List.replicate (1 + t).toNat tx))) hT6 nq2
        have hq7 : upd H6 q2 (.lst (sV (List.replicate (1 + t).toNat tx))) q2 = some (.lst ((List.replicate (1 + t).toNat tx).map V.str)) := upd_same
        have ls : ("\n" : Str).length = 1 := by decide +kernel
        have lj := join_len (y := ("\n" : Str)) (ps := List.replicate (1 + t).toNat tx) 2010 fun x hx => by rw [(List.mem_replicate.mp hx).2]; exact lpt
        rw [ls, List.length_replicate] at lj
        have hn : (1 + t).toNat * (2010 + 1) ≤ 8 * (2010 + 1) := Nat.mul_le_mul_right _ (by omega)
        have hs := sumLeT 2010 (List.replicate (1 + t).toNat tx) fun x hx => by rw [(List.mem_replicate.mp hx).2]; exact lpt
        rw [List.length_replicate] at hs
        have hn2 : (1 + t).toNat * 2010 ≤ 8 * 2010 := Nat.mul_le_mul_right _ (by omega)
        refine ⟨_, q2, _, rfl, rfl, .inl (SqL.of hq7), ?_, ?_⟩
        · rw [show (Str.ofString "\n").length = 1 from ls, List.length_replicate]; omega
        exact ⟨_, _, _, _, _, _, rfl, box_ext hB6 x7.ext, x7.tab, tabS_ex x7 ne hL6, join_sg e10 fun x hx => by rw [(List.mem_replicate.mp hx).2]; exact spt, Nat.le_trans lj (by omega)⟩
      clear hB5 hT5 hL5 spt lpt
      rintro σ H5 ⟨tx, c5, c6, c7, c8, c10, rfl, hB5, hT5, hL5, spt, lpt⟩
      refine ⟨MidT cs b l p (some (.ref a)) (some (.ref b)) (some (.int (0 + (i : Nat)))) (some (.ref pg)) (some (.int way)), ?_, ?_⟩
      · -- any signs
        refine ⟨_, rfl, rfl, _, rfl, iteB ?_ ⟨tx, _, _, _, _, _, rfl, hB5, hT5, hL5, spt, lpt⟩⟩
        refine ⟨_, rfl, b, l, rfl, hB5, fun sg H6 hsg hB6 x6 => ⟨by show 5 ≤ sizeLine; decide, fun q nq => ?_⟩⟩
        obtain ⟨qb, ql⟩ := new_ne hB6 nq
        have hT6 := tabs_kb hT5 hB5 x6
        have hL6 := tabS_kb hL5 hB5 x6
        have x7 := Ex.laid (o := .lst [.str "a", .str "\t", .str "\n", .str " ", .str ⟨#[sg]⟩]) hT6 nq
        have hB7 := box_ext hB6 x7.ext
        have hL7 := tabS_ex x7 ne hL6
        have hq7 : upd H6 q (.lst [.str "a", .str "\t", .str "\n", .str " ", .str ⟨#[sg]⟩]) q = some (.lst (sV [("a" : Str), "\t", "\n", " ", ⟨#[sg]⟩])) := upd_same
        have hT7 := x7.tab
        generalize upd H6 q (.lst [.str "a", .str "\t", .str "\n", .str " ", .str ⟨#[sg]⟩]) = H7 at x7 hB7 hL7 hq7 hT7 ⊢
        have hsi : ∀ y ∈ [("a" : Str), "\t", "\n", " ", ⟨#[sg]⟩], y.length ≤ 1 ∧ TxtSg y := fun y hy => by
          have e : ∀ y : Str, (cl y).all (fun c => decide ((32 ≤ c ∧ c ≤ 126 ∧ c ≠ 37) ∨ c = 9 ∨ c = 10)) = true → TxtSg y := fun y hy c hc => of_decide_eq_true (List.all_eq_true.mp hy c hc)
          simp only [List.mem_cons, List.not_mem_nil, or_false] at hy
          rcases hy with rfl | rfl | rfl | rfl | rfl
          · exact ⟨by decide +kernel, e _ (by decide +kernel)⟩
          · exact ⟨by decide +kernel, e _ (by decide +kernel)⟩
          · exact ⟨by decide +kernel, e _ (by decide +kernel)⟩
          · exact ⟨by decide +kernel, e _ (by decide +kernel)⟩
          · exact ⟨by show 1 ≤ 1; decide, fun d hd => by
              have : d = sg := by simpa [cl] using hd
              rw [this]
              exact .inl hsg⟩
        refine ⟨⟨_, rfl⟩, _, rfl, b, l, 60, rfl, hB7, by decide, by decide, fun n H8 n0 n1 hB8 x8 => ⟨n, rfl, by omega, by omega, fun D nD => lc_range (n := n.toNat) (fun i' H' => BoxAt H' b l ∧ KB b l H8 H' ∧ ∃ ys : List Str, H' D = some (.lst (sV ys)) ∧ ys.length = i' ∧ ∀ y ∈ ys, y.length ≤ 1 ∧ TxtSg y) ⟨box_new hB8 nD, kb_new nD, [], upd_same, rfl, fun y hy => by cases hy⟩ ?_ ?_⟩⟩
        · rintro i' H9 hi' ⟨hB9, y9, ys, hD9, hyl, hys⟩
          obtain ⟨db, dl⟩ := new_ne hB8 nD
          have hq9 := y9 q _ (x8 q _ hq7 qb ql) qb ql
          refine ⟨rfl, _, rfl, _, rfl, b, l, 5, rfl, hB9, by decide, by decide, fun r H10 r0 r1 hB10 x10 => ?_⟩
          obtain ⟨v, hv, ev⟩ := pick (xs := [("a" : Str), "\t", "\n", " ", ⟨#[sg]⟩]) (i := r) r0 r1
          refine ⟨q, _, _, .str v, rfl, rfl, SqL.of (x10 q _ hq9 qb ql), atI_map ev, _, x10 D _ hD9 db dl, by rw [List.length_map]; omega, box_upd hB10 db dl, kb_upd (y9.trans x10) nD, ys ++ [v], ?_, by rw [List.length_append, hyl]; rfl, fun y hy => ?_⟩
          · rw [upd_same]; simp [sV]
          · rcases List.mem_append.mp hy with h | h
            · exact hys y h
            · rw [List.mem_singleton.mp h]
              exact hsi v hv
        · rintro H9 ⟨hB9, y9, ys, hD9, hyl, hys⟩
          have hT9 := tabs_kb (tabs_kb hT7 hB7 x8) hB8 y9
          have hL9 := tabS_kb (tabS_kb hL7 hB7 x8) hB8 y9
          have l0 : ("" : Str).length = 0 := by decide +kernel
          have lj := join_len (y := ("" : Str)) (ps := ys) 1 fun x hx => (hys x hx).1
          have hs := sumLeT 1 ys fun x hx => (hys x hx).1
          rw [l0] at lj
          refine ⟨_, D, ys, rfl, rfl, .inl (SqL.of hD9), ?_, ?_⟩
          · rw [show (Str.ofString "").length = 0 from l0]; omega
          exact ⟨_, _, _, _, _, _, rfl, hB9, hT9, hL9, join_sg (fun c hc => by rw [show cl ("" : Str) = [] from by decide +kernel] at hc; cases hc) fun x hx => (hys x hx).2, Nat.le_trans lj (by omega)⟩
      clear hB5 hT5 hL5 spt lpt c5 c6 c7 c8 c10 tx
      rintro σ H5 ⟨tx, c5, c6, c7, c8, c10, rfl, hB5, hT5, hL5, spt, lpt⟩
      -- spoilt
      refine ⟨_, rfl, b, l, 5, rfl, hB5, by decide, by decide, fun n H6 n0 n1 hB6 x6 => ⟨n, rfl, by omega, by omega, for_range (n := n.toNat) (fun j σ H' => ∃ (tx : Str) (c6 : Option V), σ = [some (.ref a), some (.ref b), some (.int (0 + (i : Nat))), some (.ref pg), some (.int way), c5, c6, c7, c8, some (.str tx), c10] ∧ BoxAt H' b l ∧ Tabs cs H' ∧ LamX.TabS H' p lawQ ∧ TxtSg tx ∧ tx.length + 8 ≤ 16108 * 2 ^ j) ⟨_, _, rfl, hB6, tabs_kb hT5 hB5 x6, tabS_kb hL5 hB5 x6, spt, by rw [Nat.pow_zero]; omega⟩ ?_ ?_⟩⟩
      · rintro j σ H7 hj ⟨tx, c6, rfl, hB7, hT7, hL7, st, lt⟩
        have p2 : 2 ^ j ≤ 2 ^ 3 := Nat.pow_le_pow_right (by decide) (by omega)
        have e2 : 2 ^ (j + 1) = 2 ^ j * 2 := Nat.pow_succ ..
        refine ⟨_, rfl, _, rfl, b, l, tx, rfl, hB7, st, by omega, fun t2 H8 st2 lt2 hB8 x8 => ⟨t2, _, rfl, hB8, tabs_kb hT7 hB7 x8, tabS_kb hL7 hB7 x8, st2, by omega⟩⟩
      rintro σ H7 ⟨tx, c6, rfl, hB7, hT7, hL7, st, lt⟩
      have p2 : 2 ^ n.toNat ≤ 2 ^ 4 := Nat.pow_le_pow_right (by decide) (by omega)
      have lt1 : tx.length ≤ 1000000 := by omega
      clear lt p2 x6 hB6 hB5 hT5 hL5 spt lpt
      have fin : ∀ {H' : Hp}, Ex cs H7 H' → BoxAt H' b l ∧ Tabs cs H' ∧ LamX.TabS H' p lawQ := fun x => ⟨box_ext hB7 x.ext, x.tab, tabS_ex x ne hL7⟩
      refine ⟨_, rfl, tx, rfl, hT7, st, lt1, fun g r ps H8 x8 nr hr8 hrows => ?_, fun n B t H8 x8 nt ht8 => ?_⟩
      · have hpo := good_pg st g
        have dpt : (PyData.list (rowsD (rowsT tx))).depth < 4 := by have := depthAll_rows (rowsT tx); simp only [PyData.depth]; omega
        obtain ⟨f1_, f2_, f3_⟩ := fin x8
        refine ⟨_, rfl, by decide, by decide, for_range (n := 2) (fun _ σ H' => ∃ (c8 : Option V), σ = [some (.ref a), some (.ref b), some (.int (0 + (i : Nat))), some (.ref pg), some (.int way), c5, c6, some (.ref r), c8, some (.str tx), c10] ∧ BoxAt H' b l ∧ Tabs cs H' ∧ LamX.TabS H' p lawQ ∧ H' r = some (.lst (ps.map V.ref)) ∧ RowsAt ps (rowsT tx) H') ⟨_, rfl, f1_, f2_, f3_, hr8, hrows⟩ ?_ ?_⟩
        · rintro j σ H9 hj ⟨c8, rfl, hB9, hT9, hL9, hr9, hrows9⟩
          refine ⟨hL9, fun f1 cc H19 e1 e2 t1 nf hf1 hc1 => fun cl Tc un => ?_⟩
          have z19 := ex_lam (c := c) hT9 ne hL9 e1 e2 t1
          refine told_read (i0 := 9) Gr Grx kr br mr Tc un rfl rfl rfl (tabs_less z19.tab) hf1 hc1 lt1 st (fun _ r2 ps2 H20 x20 nr2 hr20 hrows2 hcl _ => ?_) (fun n B => (good_bad g B).elim)
          rw [del_add hcl]
          have PA : PageAt K H20 r2 ps2 (rowsT tx) := ⟨SqL.of hr20, hrows2.len, fun i q z h1 h2 => .inl (.inl (hrows2.row i q z h1 h2))⟩
          have hr3 := x20.lst (z19.lst hr9)
          have hrows3 : RowsAt ps (rowsT tx) H20 := ⟨hrows9.len, fun i q z h1 h2 => x20.tup (z19.tup (hrows9.row i q z h1 h2))⟩
          have PD : PageAt K H20 r ps (rowsT tx) := ⟨SqL.of hr3, hrows.len, fun i q z h1 h2 => .inl (.inl (hrows3.row i q z h1 h2))⟩
          exact ⟨_, rfl, .ref r2, .ref r, .list (rowsD (rowsT tx)), rfl, dp_pageAt PA, dp_pageAt PD, dpt, dok_rows hpo, true, rfl, iteF ⟨_, rfl, box_ext (box_ext hB9 z19.ext) x20.ext, x20.tab, tabS_ex x20 ne t1, hr3, hrows3⟩⟩
        · rintro σ H9 ⟨c8, rfl, hB9, hT9, hL9, _, _⟩
          exact ⟨_, _, _, _, _, _, _, _, _, rfl, hB9, hT9, hL9⟩
      · obtain ⟨f1_, f2_, f3_⟩ := fin x8
        refine ⟨_, rfl, by decide, by decide, for_range (n := 2) (fun _ σ H' => ∃ (c8 : Option V), σ = [some (.ref a), some (.ref b), some (.int (0 + (i : Nat))), some (.ref pg), some (.int way), c5, c6, some (.ref t), c8, some (.str tx), c10] ∧ BoxAt H' b l ∧ Tabs cs H' ∧ LamX.TabS H' p lawQ ∧ H' t = some (.tup [.str "BadText", .int (n : Nat)])) ⟨_, rfl, f1_, f2_, f3_, ht8⟩ ?_ ?_⟩
        · rintro j σ H9 hj ⟨c8, rfl, hB9, hT9, hL9, ht9⟩
          refine ⟨hL9, fun f1 cc H19 e1 e2 t1 nf hf1 hc1 => fun cl Tc un => ?_⟩
          have z19 := ex_lam (c := c) hT9 ne hL9 e1 e2 t1
          refine told_read (i0 := 9) Gr Grx kr br mr Tc un rfl rfl rfl (tabs_less z19.tab) hf1 hc1 lt1 st (fun g => (good_bad g B).elim) (fun n2 B2 t2 H20 x20 ht20 _ => ?_)
          have en : n2 = n := by
            rcases Nat.lt_trichotomy n2 n with h | h | h
            · obtain ⟨r, hr⟩ := getP B2.lt
              have h30 := B.n30
              rcases B2.bad with q | ⟨r2, q1, q2⟩
              · omega
              · rw [B.ok n2 r2 h q1] at q2; cases q2
            · exact h
            · have h30 := B2.n30
              rcases B.bad with q | ⟨r2, q1, q2⟩
              · omega
              · rw [B2.ok n r2 h q1] at q2; cases q2
          subst en
          generalize delC H20 cl = H21 at x20 ht20 ⊢
          have ht3 := x20.tup (z19.tup ht9)
          exact ⟨_, rfl, .ref t2, .ref t, .tuple [.str "BadText", .int (n2 : Nat)], rfl, .tup (SqT.of ht20) (.cons (.str _) (.cons (.int _) .nil)), .tup (SqT.of ht3) (.cons (.str _) (.cons (.int _) .nil)), by simp [PyData.depth, PyData.depthAll], by simp [dok, dokAll], true, rfl, iteF ⟨_, rfl, box_ext (box_ext hB9 z19.ext) x20.ext, x20.tab, tabS_ex x20 ne t1, ht3⟩⟩
        · rintro σ H9 ⟨c8, rfl, hB9, hT9, hL9, _⟩
          exact ⟨_, _, _, _, _, _, _, _, _, rfl, hB9, hT9, hL9⟩
    · rintro σ H1 ⟨c2, c3, c4, c5, c6, c7, c8, c9, c10, rfl, hB1, hT1, hL1⟩
      exact k _
end
end TG

namespace TG
open PySem PySem.Spec PyProof.Rows L2
/-! ### the head -/
def dd (i : Nat) (x : Str) : He.DefD := ⟨(x, none), x, x, defArgs (top i), defBody (top i), defScope (top i), [], []⟩
def fnL : List He.DefD := [dd 22 "is_sign", dd 23 "is_text_of_signs", dd 24 "is_row", dd 25 "first_misfit", dd 26 "check_page", dd 28 "written", dd 29 "read", dd 30 "rows_of", dd 32 "_law_begun", dd 33 "_law_take", dd 34 "_law_alike", dd 35 "_law_told", dd 37 "_law_sign", dd 38 "_law_cell", dd 39 "_law_row", dd 40 "_law_page", dd 41 "_law_style", dd 42 "_law_spoilt", dd 43 "_law_due", dd 44 "law"]
def faL : List He.Fa := [.glo "is_sign", .glo "is_text_of_signs", .glo "is_row", .glo "first_misfit", .glo "check_page", .glo "written", .glo "read", .glo "rows_of", .glo "_law_begun", .glo "_law_take", .glo "_law_alike", .glo "_law_told", .glo "_law_sign", .glo "_law_cell", .glo "_law_row", .glo "_law_page", .glo "_law_style", .glo "_law_spoilt", .glo "_law_due", .glo "law", .int "BLANK" 32, .int "TILDE" 126, .int "PERCENT" 37, .int "MOST_ROWS" 30, .int "MOST_CELLS" 6, .int "MOST_SIGNS" 10, .free "isinstance", .free "len", .free "range", .free "max", .free "min", .free "all", .free "str", .free "int", .free "bool", .free "list", .free "tuple", .free "enumerate", .free "ord", .str "TAB" "\t", .str "LINE_END" "\n", .glo "GrowError", .glo "BadPage", .glo "BadStyle", .glo "BadRow", .glo "BadCell", .glo "BadCount", .glo "BadLines", .glo "BadStep", .glo "BadStroke", .glo "BadText", .glo "BadHand", .glo "TooMuch", .free "ValueError", .free "super"]
def tfB : List He.Defn := [("is_text_of_signs", none), ("is_row", none)]
def lmL : List He.Defn := [("law", none)]
def tfL : List He.Defn := tfB ++ lmL
def exL : PySem.W.Frag → Bool := fun K => (lmL.all fun r => (tfB.all fun q => decide ((He.cT K q).2 ≠ (He.cT K r).2)) && (lmL.all fun q => decide (q = r) || decide ((He.cT K q).2 ≠ (He.cT K r).2)))
theorem subL {K : PySem.W.Frag} {q : Addr × Addr} (h : q ∈ tfB.map (He.cT K)) : q ∈ tfL.map (He.cT K) := by
  unfold tfL
  rw [List.map_append]
  exact List.mem_append_left _ h
theorem memL {K : PySem.W.Frag} {r : He.Defn} (h : r ∈ lmL) : He.cT K r ∈ tfL.map (He.cT K) := by
  unfold tfL
  rw [List.map_append]
  exact List.mem_append_right _ (List.mem_map_of_mem h)
theorem ne_of_ex {K : PySem.W.Frag} (h : exL K = true) {r : He.Defn} (hr : r ∈ lmL) : Apart (tfB.map (He.cT K)) (He.cT K r).2 := fun q hq => by
  obtain ⟨d, hd, rfl⟩ := List.mem_map.mp hq
  have z := (Bool.and_eq_true_iff.mp (List.all_eq_true.mp h r hr)).1
  have z := List.all_eq_true.mp z d hd
  simpa using z
theorem ne_of_ex2 {K : PySem.W.Frag} (h : exL K = true) {r q : He.Defn} (hr : r ∈ lmL) (hq : q ∈ lmL) (n : q ≠ r) : (He.cT K q).2 ≠ (He.cT K r).2 := by
  have z := (Bool.and_eq_true_iff.mp (List.all_eq_true.mp h r hr)).2
  have z := List.all_eq_true.mp z q hq
  simpa [n] using z
theorem fun_of {K : PySem.W.Frag} {x : Str} {st : Stmt} {f : Addr} {fd : FuncData} (F : FunD K x x (defArgs st) (defBody st) (defScope st) [] [] f fd) : Fun K x x st f fd := by
  obtain ⟨⟨oc, od, dV, kV, doc, pm, an, cdv, ct, osl, e, lk, hcd, hd, _⟩, kp⟩ := F
  rcases hd with ⟨_, hd⟩ | ⟨hd, _⟩
  · subst hd
    exact ⟨⟨oc, od, kV, doc, pm, an, cdv, ct, osl, e, lk, hcd⟩, kp⟩
  · exact absurd rfl hd
/-- a def of the top, by its name -/
structure At (K : PySem.W.Frag) (mg : Str → Option Value) (x : Str) (st : Stmt) (fd : FuncData) : Prop where
  mg_ : mg x = some (.ref (He.ga K x))
  fn : Fun K x x st (He.ga K x) fd
theorem At.kp {K : PySem.W.Frag} {mg : Str → Option Value} {x : Str} {st : Stmt} {fd : FuncData} (a : At K mg x st fd) : PySem.W.keepIn K (.ref (He.ga K x)) = true := a.fn.kp
theorem at_of {fa : List He.Fa} {fn : List He.DefD} {K : PySem.W.Frag} {h : Heap} {mg : Str → Option Value} (X : K.In h) (G : h.Ns mainGlobals mg) (c : He.SaysD fa fn K) {i : Nat} {x : Str} (hd : dd i x ∈ fn) (hf : He.Fa.glo x ∈ fa) : ∃ fd, At K mg x (top i) fd := by
  obtain ⟨fd, F⟩ := c.defs hd
  exact ⟨fd, He.glo_ok X G (c.facts hf), fun_of F⟩
theorem code_of {K : PySem.W.Frag} {mg : Str → Option Value} {x : Str} {st : Stmt} {fd : FuncData} (a : At K mg x st fd) : fd.code = .ref (He.cT K (x, none)).1 := by
  obtain ⟨oc, od, kV, doc, pm, an, cdv, ct, osl, e, lk, hcd⟩ := a.fn.ex
  obtain ⟨c, hc⟩ := He.codeIn_ref hcd
  have e2 : fd.code = .ref c := by rw [e, ← hc]
  have e3 : He.codeOf K (x, none) = c := He.codeOf_eq (p := (x, none)) lk e2
  show fd.code = .ref (He.codeOf K (x, none))
  rw [e3, e2]
theorem tab_conv {base : Heap} {mg : Str → Option Value} {c P : Addr} (t : LamX.TabB base mg c P) : GxR.TabB base mg c P := ⟨t.code, t.bm, t.gP⟩

theorem txt_of {K : PySem.W.Frag} {h : Heap} {mg : Str → Option Value} (X : K.In h) (G : h.Ns mainGlobals mg) (c : He.SaysD faL fnL K) : Txt mg := by
  constructor
  all_goals exact He.free_ok X G (c.facts (by simp [faL]))
theorem consts_of {K : PySem.W.Frag} {h : Heap} {mg : Str → Option Value} (X : K.In h) (G : h.Ns mainGlobals mg) (c : He.SaysD faL fnL K) : Consts mg := by
  constructor
  all_goals exact He.int_ok X G (c.facts (by simp [faL]))
def excCB (K : PySem.W.Frag) (D : Addr) : Bool :=
  He.eqO (PySem.W.findIn K (.ref D) "__getattribute__") (some (some (.builtin "BaseException.__getattribute__"))) && (He.eqO (PySem.W.findIn K (.ref D) "__getattr__") (some none) && (decide (PySem.W.subIn K (.ref D) (.type "BaseException") = some true) && (PySem.W.hasDictIn K D && (He.eqO (PySem.W.findIn K (.ref D) "__class__") (some (some (.builtin "object.__class__"))) &&
    (He.eqO (PySem.W.specialIn K (.builtin "object.__class__") "__get__") (some (some (.builtin "getset_descriptor.__get__"))) && (decide (PySem.W.takesIn K (.builtin "object.__class__") = some true) && decide (PySem.W.mroIn K D (.type "object") = some true)))))))
theorem excCB_ok {K : PySem.W.Frag} {D : Addr} (h : excCB K D = true) : ExcC K D := by
  obtain ⟨h1, h⟩ := He.ba h
  obtain ⟨h2, h⟩ := He.ba h
  obtain ⟨h3, h⟩ := He.ba h
  obtain ⟨h4, h⟩ := He.ba h
  obtain ⟨h5, h⟩ := He.ba h
  obtain ⟨h6, h⟩ := He.ba h
  obtain ⟨h7, h8⟩ := He.ba h
  exact ⟨He.eqO_ok h1, He.eqO_ok h2, of_decide_eq_true h3, h4, He.eqO_ok h5, He.eqO_ok h6, of_decide_eq_true h7, of_decide_eq_true h8⟩
def errsB (K : PySem.W.Frag) : Bool := (List.range 11).all fun j => excCB K (He.ga K (nmE j)) && (decide (PySem.W.exmOne K (.ref (He.ga K (nmE j))) (.ref (He.ga K "GrowError")) = some true) && (decide (PySem.W.kitOne K (.ref (He.ga K (nmE j))) (.type "ValueError") = some true) &&
  (((List.range 11).all fun i => decide (PySem.W.kitOne K (.ref (He.ga K (nmE j))) (.ref (He.ga K (nmE i))) = some (decide (j = i)))) && (decide (flE j = "") || He.eqO (PySem.W.findIn K (.ref (He.ga K (nmE j))) (flE j)) (some none)))))
theorem errs_of {K : PySem.W.Frag} {h : Heap} {mg : Str → Option Value} (X : K.In h) (G : h.Ns mainGlobals mg) (c : He.SaysD faL fnL K) (e : errsB K = true) : Errs K mg := by
  have at_ : ∀ j, j < 11 → _ := fun j hj => List.all_eq_true.mp e j (List.mem_range.mpr hj)
  refine ⟨fun j hj => ?_, He.glo_ok X G (c.facts (by simp [faL])), fun j hj => excCB_ok (He.ba (at_ j hj)).1, fun j hj => of_decide_eq_true (He.ba (He.ba (at_ j hj)).2).1, fun j hj => of_decide_eq_true (He.ba (He.ba (He.ba (at_ j hj)).2).2).1, fun i j hi hj => ?_, fun j hj hn => ?_, He.free_ok X G (c.facts (by simp [faL]))⟩
  · have : ∀ x ∈ excNm, mg x = some (.ref (He.ga K x)) := by
      intro x hx
      simp only [excNm, List.mem_cons, List.not_mem_nil, or_false] at hx
      rcases hx with rfl | rfl | rfl | rfl | rfl | rfl | rfl | rfl | rfl | rfl | rfl <;> exact He.glo_ok X G (c.facts (by simp [faL]))
    refine this _ ?_
    have h2 : j < excNm.length := hj
    simp only [nmE, List.getD, List.getElem?_eq_getElem h2, Option.getD_some]
    exact List.getElem_mem h2
  · have z := (He.ba (He.ba (He.ba (He.ba (at_ i hi)).2).2).2).1
    exact of_decide_eq_true (List.all_eq_true.mp z j (List.mem_range.mpr hj))
  · have z := (He.ba (He.ba (He.ba (He.ba (at_ j hj)).2).2).2).2
    rcases Bool.or_eq_true_iff.mp z with q | q
    · exact absurd (of_decide_eq_true q) hn
    · exact He.eqO_ok q
def exT (K : PySem.W.Frag) : Bool := exL K && (errB PySem.Challenge.rw_tabgrow_k26_texts_read.prog.main.file "BadText" "row" K && errsB K)
abbrev valsT : List IniW := [(some ("__init__", "BadText.__init__", defArgs iniL, .stmts (defBody iniL), defScope iniL, mainGlobals, ["__class__"], builtinsNs) : IniW)]
theorem triples_nil : TriplesOk (#[] : Array Value).toList := trivial
theorem facts {w : World} {K : PySem.W.Frag} {h : Heap} {mg : Str → Option Value} {f : Addr} (X : K.In h) (G : h.Ns mainGlobals mg) (hfa : mg ("law" : Str) = some (.ref f)) (c : He.SaysX faL fnL [] tfL exT w h K) (hv : (["BadText"] : List Str).map (iniW K) = valsT) :
    LamX.LawAtS PySem.Challenge.rw_tabgrow_k26_texts_read w K CX0 14 63 "_law_script" mg f h := by
  have cd := c.t.d
  have T := txt_of X G cd
  have N := consts_of X G cd
  obtain ⟨me, mr⟩ := He.ba c.more
  obtain ⟨mr, ms⟩ := He.ba mr
  have Er := errs_of X G cd ms
  have ne := ne_of_ex me (r := ("law", none)) (by simp [lmL])
  have hf : ∀ {x : He.Fa}, x ∈ faL → He.Fa.ok K x = true := fun h => cd.facts h
  have eT : ∃ t, mg "TAB" = some (.str tabS t) := He.str_ok X G (hf (x := .str "TAB" "\t") (by simp [faL]))
  have eL : ∃ t, mg "LINE_END" = some (.str lineS t) := He.str_ok X G (hf (x := .str "LINE_END" "\n") (by simp [faL]))
  obtain ⟨d22, a22⟩ := at_of X G cd (i := 22) (x := "is_sign") (by simp [fnL]) (by simp [faL])
  have b22 := a22.fn.binds (ps := ["sign"]) fun _ _ _ _ _ _ us hl => match us, hl with | [_], _ => rfl
  obtain ⟨d23, a23⟩ := at_of X G cd (i := 23) (x := "is_text_of_signs") (by simp [fnL]) (by simp [faL])
  have b23 := a23.fn.binds (ps := ["value", "most"]) fun _ _ _ _ _ _ us hl => match us, hl with | [_, _], _ => rfl
  obtain ⟨d24, a24⟩ := at_of X G cd (i := 24) (x := "is_row") (by simp [fnL]) (by simp [faL])
  have b24 := a24.fn.binds (ps := ["value"]) fun _ _ _ _ _ _ us hl => match us, hl with | [_], _ => rfl
  obtain ⟨d25, a25⟩ := at_of X G cd (i := 25) (x := "first_misfit") (by simp [fnL]) (by simp [faL])
  have b25 := a25.fn.binds (ps := ["rows"]) fun _ _ _ _ _ _ us hl => match us, hl with | [_], _ => rfl
  obtain ⟨d26, a26⟩ := at_of X G cd (i := 26) (x := "check_page") (by simp [fnL]) (by simp [faL])
  have b26 := a26.fn.binds (ps := ["page"]) fun _ _ _ _ _ _ us hl => match us, hl with | [_], _ => rfl
  obtain ⟨d28, a28⟩ := at_of X G cd (i := 28) (x := "written") (by simp [fnL]) (by simp [faL])
  have b28 := a28.fn.binds (ps := ["page"]) fun _ _ _ _ _ _ us hl => match us, hl with | [_], _ => rfl
  obtain ⟨d29, a29⟩ := at_of X G cd (i := 29) (x := "read") (by simp [fnL]) (by simp [faL])
  have b29 := a29.fn.binds (ps := ["text"]) fun _ _ _ _ _ _ us hl => match us, hl with | [_], _ => rfl
  obtain ⟨d30, a30⟩ := at_of X G cd (i := 30) (x := "rows_of") (by simp [fnL]) (by simp [faL])
  have b30 := a30.fn.binds (ps := ["text"]) fun _ _ _ _ _ _ us hl => match us, hl with | [_], _ => rfl
  obtain ⟨d32, a32⟩ := at_of X G cd (i := 32) (x := "_law_begun") (by simp [fnL]) (by simp [faL])
  have b32 := a32.fn.binds (ps := ["_law_script"]) fun _ _ _ _ _ _ us hl => match us, hl with | [_], _ => rfl
  obtain ⟨d33, a33⟩ := at_of X G cd (i := 33) (x := "_law_take") (by simp [fnL]) (by simp [faL])
  have b33 := a33.fn.binds (ps := ["_law_box", "_law_many"]) fun _ _ _ _ _ _ us hl => match us, hl with | [_, _], _ => rfl
  obtain ⟨d34, a34⟩ := at_of X G cd (i := 34) (x := "_law_alike") (by simp [fnL]) (by simp [faL])
  have b34 := a34.fn.binds (ps := ["_law_found", "_law_due_here"]) fun _ _ _ _ _ _ us hl => match us, hl with | [_, _], _ => rfl
  obtain ⟨d35, a35⟩ := at_of X G cd (i := 35) (x := "_law_told") (by simp [fnL]) (by simp [faL])
  have b35 := a35.fn.binds (ps := ["_law_work"]) fun _ _ _ _ _ _ us hl => match us, hl with | [_], _ => rfl
  obtain ⟨d37, a37⟩ := at_of X G cd (i := 37) (x := "_law_sign") (by simp [fnL]) (by simp [faL])
  have b37 := a37.fn.binds (ps := ["_law_box"]) fun _ _ _ _ _ _ us hl => match us, hl with | [_], _ => rfl
  obtain ⟨d38, a38⟩ := at_of X G cd (i := 38) (x := "_law_cell") (by simp [fnL]) (by simp [faL])
  have b38 := a38.fn.binds (ps := ["_law_box", "_law_sort"]) fun _ _ _ _ _ _ us hl => match us, hl with | [_, _], _ => rfl
  obtain ⟨d39, a39⟩ := at_of X G cd (i := 39) (x := "_law_row") (by simp [fnL]) (by simp [faL])
  have b39 := a39.fn.binds (ps := ["_law_box", "_law_sorts", "_law_many"]) fun _ _ _ _ _ _ us hl => match us, hl with | [_, _, _], _ => rfl
  obtain ⟨d40, a40⟩ := at_of X G cd (i := 40) (x := "_law_page") (by simp [fnL]) (by simp [faL])
  have b40 := a40.fn.binds (ps := ["_law_box", "_law_most"]) fun _ _ _ _ _ _ us hl => match us, hl with | [_, _], _ => rfl
  obtain ⟨d41, a41⟩ := at_of X G cd (i := 41) (x := "_law_style") (by simp [fnL]) (by simp [faL])
  have b41 := a41.fn.binds (ps := ["_law_box"]) fun _ _ _ _ _ _ us hl => match us, hl with | [_], _ => rfl
  obtain ⟨d42, a42⟩ := at_of X G cd (i := 42) (x := "_law_spoilt") (by simp [fnL]) (by simp [faL])
  have b42 := a42.fn.binds (ps := ["_law_box", "_law_text"]) fun _ _ _ _ _ _ us hl => match us, hl with | [_, _], _ => rfl
  obtain ⟨d43, a43⟩ := at_of X G cd (i := 43) (x := "_law_due") (by simp [fnL]) (by simp [faL])
  have b43 := a43.fn.binds (ps := ["_law_text"]) fun _ _ _ _ _ _ us hl => match us, hl with | [_], _ => rfl
  obtain ⟨d44, a44⟩ := at_of X G cd (i := 44) (x := "law") (by simp [fnL]) (by simp [faL])
  have b44 := a44.fn.binds (ps := ["_law_script"]) fun _ _ _ _ _ _ us hl => match us, hl with | [_], _ => rfl
  have e := hfa.symm.trans a44.mg_
  cases e
  refine ⟨d44, tfL.map (He.cT K), spLaw K (tfB.map (He.cT K)) (He.cT K ("law", none)).2, fun p hp => ?_, fun p hp => ?_, fun p hp => ?_, fun s u => ?_, fun H a ns hl _ hT hS => ⟨a, ns, rfl, fun p hp => ⟨_, hT p (subL hp), triples_nil⟩, LamX.TabS.nil (hT _ (memL (r := ("law", none)) (by simp [lmL]))), hS, hl, fun _ => rfl⟩, fun base KB _ TB => ?_⟩
  · obtain ⟨p', hp', rfl⟩ := List.mem_map.mp hp
    exact c.empty p' hp'
  · obtain ⟨p', hp', rfl⟩ := List.mem_map.mp hp
    exact c.out p' hp'
  · obtain ⟨p', hp', rfl⟩ := List.mem_map.mp hp
    exact PySem.W.codeHd_of_K X (c.hd p' hp')
  · obtain ⟨oc, od, kV, doc, pm, an, cdv, ct, osl, e, _, _⟩ := a44.fn.ex
    rw [e]
    exact .of_eq rfl
  obtain ⟨fdI, R⟩ := raise_lines (P := PySem.Challenge.rw_tabgrow_k26_texts_read.prog) (w := w) (base := base) X G mr (by simpa using hv) (He.free_ok X G (cd.facts (by simp [faL]))) (by decide +kernel)
  have m23 : He.cT K ("is_text_of_signs", none) ∈ tfB.map (He.cT K) := List.mem_map.mpr ⟨_, by simp [tfB], rfl⟩
  have t23 := tab_conv (TB _ (subL m23))
  have m24 : He.cT K ("is_row", none) ∈ tfB.map (He.cT K) := List.mem_map.mpr ⟨_, by simp [tfB], rfl⟩
  have t24 := tab_conv (TB _ (subL m24))
  have g32 := ok_begun (P := PySem.Challenge.rw_tabgrow_k26_texts_read.prog) (w := w) (base := base) (mg := mg) T a32.fn 
  have g33 := ok_take (P := PySem.Challenge.rw_tabgrow_k26_texts_read.prog) (w := w) (base := base) (mg := mg)  a33.fn 
  have g37 := ok_sign (P := PySem.Challenge.rw_tabgrow_k26_texts_read.prog) (w := w) (base := base) (mg := mg)  a37.fn g33 a33.kp b33 a33.mg_
  have g38 := ok_cell (P := PySem.Challenge.rw_tabgrow_k26_texts_read.prog) (w := w) (base := base) (mg := mg) T a38.fn g33 a33.kp b33 a33.mg_ g37 a37.kp b37 a37.mg_
  have g39 := ok_lrow (P := PySem.Challenge.rw_tabgrow_k26_texts_read.prog) (w := w) (base := base) (mg := mg) T a39.fn g38 a38.kp b38 a38.mg_
  have g40 := ok_lpage (P := PySem.Challenge.rw_tabgrow_k26_texts_read.prog) (w := w) (base := base) (mg := mg) T a40.fn g33 a33.kp b33 a33.mg_ g39 a39.kp b39 a39.mg_
  have g34 := ok_alike (P := PySem.Challenge.rw_tabgrow_k26_texts_read.prog) (w := w) (base := base) (mg := mg) T a34.fn b34 a34.mg_ 4
  have g22 := ok_sg (P := PySem.Challenge.rw_tabgrow_k26_texts_read.prog) (w := w) (base := base) (mg := mg) T N a22.fn 
  have g23 := ok_text (P := PySem.Challenge.rw_tabgrow_k26_texts_read.prog) (w := w) (base := base) (mg := mg) T a23.fn (code_of a23) t23 m23 g22 a22.kp b22 a22.mg_
  have g24 := ok_isrow (P := PySem.Challenge.rw_tabgrow_k26_texts_read.prog) (w := w) (base := base) (mg := mg) T N a24.fn (code_of a24) t24 m24 g23 a23.kp b23 a23.mg_
  have g25 := ok_misfit (P := PySem.Challenge.rw_tabgrow_k26_texts_read.prog) (w := w) (base := base) (mg := mg) T N a25.fn g24 a24.kp b24 a24.mg_
  have g26 := ok_check (P := PySem.Challenge.rw_tabgrow_k26_texts_read.prog) (w := w) (base := base) (mg := mg) T a26.fn g25 a25.kp b25 a25.mg_
  have g28 := ok_writ (P := PySem.Challenge.rw_tabgrow_k26_texts_read.prog) (w := w) (base := base) (mg := mg) eT eL a28.fn g26 a26.kp b26 a26.mg_
  have g42 := ok_spoilt (P := PySem.Challenge.rw_tabgrow_k26_texts_read.prog) (w := w) (base := base) (mg := mg) T a42.fn g33 a33.kp b33 a33.mg_ g37 a37.kp b37 a37.mg_
  have g43 := ok_dueT (P := PySem.Challenge.rw_tabgrow_k26_texts_read.prog) (w := w) (base := base) (mg := mg) (cs := tfB.map (He.cT K)) T a43.fn 
  have g35 := ok_tells (P := PySem.Challenge.rw_tabgrow_k26_texts_read.prog) (w := w) (base := base) (mg := mg) (cs := tfB.map (He.cT K)) (kl := 12) T Er a35.fn 
  have g30 := ok_rowsof (P := PySem.Challenge.rw_tabgrow_k26_texts_read.prog) (w := w) (base := base) (mg := mg) (cs := tfB.map (He.cT K)) T eT eL a30.fn 
  have g29 := ok_read (P := PySem.Challenge.rw_tabgrow_k26_texts_read.prog) (w := w) (base := base) (mg := mg) T a29.fn g30 a30.kp b30 a30.mg_ g25 a25.kp b25 a25.mg_
  have g23_3 := ok_text3 (P := PySem.Challenge.rw_tabgrow_k26_texts_read.prog) (w := w) (base := base) (mg := mg) (cs := tfB.map (He.cT K)) T a23.fn (code_of a23) t23 m23 g22 a22.kp b22 a22.mg_
  have g24_3 := ok_row3 (P := PySem.Challenge.rw_tabgrow_k26_texts_read.prog) (w := w) (base := base) (mg := mg) T N a24.fn (code_of a24) t24 m24 g23_3 a23.kp b23 a23.mg_
  have g25_B := ok_misB (P := PySem.Challenge.rw_tabgrow_k26_texts_read.prog) (w := w) (base := base) (mg := mg) T N a25.fn g24_3 a24.kp b24 a24.mg_
  have g29_x := ok_readX (P := PySem.Challenge.rw_tabgrow_k26_texts_read.prog) (w := w) (base := base) (mg := mg) T R a29.fn g30 a30.kp b30 a30.mg_ g25_B a25.kp b25 a25.mg_
  exact ok_law T ne a44.fn (code_of a44) (TB _ (memL (r := ("law", none)) (by simp [lmL]))) g32 a32.kp b32 a32.mg_ g33 a33.kp b33 a33.mg_ g40 a40.kp b40 a40.mg_ g37 a37.kp b37 a37.mg_ g34 a34.kp b34 a34.mg_ g28 a28.kp b28 a28.mg_ g42 a42.kp b42 a42.mg_ g43 a43.kp b43 a43.mg_ g35 a35.kp b35 a35.mg_ g29 g29_x a29.kp b29 a29.mg_
end TG


namespace TG
open PySem PySem.Spec PyProof.Rows L2
abbrev R : PySem.W.OpenRow := PySem.W.OpenLaw.row PySem.Challenge.rw_tabgrow_k26_texts_read
abbrev hk : PySem.W.Hook := hookI 4 faL fnL [] tfL exT ["BadText"] valsT
def ob (s : PySem.W.SharedT) : (He.AlT × Bool) × List IniW := obsI 4 faL fnL [] tfL exT ["BadText"] (HandSHeadRun.getT s)
theorem ob_eq (s : PySem.W.SharedT) : ob s = hk.obs s.abs := obsI_eq 4 faL fnL [] tfL exT ["BadText"] valsT (HandSHeadRun.getT_eq s)
def loose0 : List Str := [PySem.Str.ofString "GrowError", PySem.Str.ofString "BadPage", PySem.Str.ofString "BadStyle", PySem.Str.ofString "BadRow", PySem.Str.ofString "BadCell", PySem.Str.ofString "BadCount", PySem.Str.ofString "BadHand", PySem.Str.ofString "TooMuch", PySem.Str.ofString "BadLines", PySem.Str.ofString "BadStep", PySem.Str.ofString "BadStroke", PySem.Str.ofString "BadText", PySem.Str.ofString "MOST_ROWS", PySem.Str.ofString "MOST_CELLS", PySem.Str.ofString "MOST_SIGNS", PySem.Str.ofString "BLANK", PySem.Str.ofString "TILDE", PySem.Str.ofString "PERCENT", PySem.Str.ofString "TAB", PySem.Str.ofString "LINE_END"]
def loose1 : List Str := [PySem.Str.ofString "is_sign", PySem.Str.ofString "is_text_of_signs", PySem.Str.ofString "is_row", PySem.Str.ofString "first_misfit", PySem.Str.ofString "check_page", PySem.Str.ofString "written", PySem.Str.ofString "read", PySem.Str.ofString "rows_of", PySem.Str.ofString "_law_begun", PySem.Str.ofString "_law_take", PySem.Str.ofString "_law_alike", PySem.Str.ofString "_law_told", PySem.Str.ofString "_law_all", PySem.Str.ofString "_law_sign", PySem.Str.ofString "_law_cell", PySem.Str.ofString "_law_row", PySem.Str.ofString "_law_page", PySem.Str.ofString "_law_style", PySem.Str.ofString "_law_spoilt", PySem.Str.ofString "_law_due"]
def looseL : List Str := loose0 ++ loose1
theorem run (w : World) : HandSHeadRun.RunEq R (PySem.W.view R.prog [44]) hk ob 9000 looseL w := by
  intro os
  kernel_rfl
end TG


open PySem PySem.W PySem.Calls PyProof.Rows
theorem PySem.Challenge.cw_tabgrow_k26_texts_read_holds : PySem.Challenge.rw_tabgrow_k26_texts_read.Holds := by
  w_on; o_law
  refine HandSHeadRun.head_any (r := OpenLaw.row PySem.Challenge.rw_tabgrow_k26_texts_read) (q := view (OpenLaw.row PySem.Challenge.rw_tabgrow_k26_texts_read).prog [44]) (H := TG.hk) (ob := TG.ob) (M := 9000) (loose := TG.looseL) (d := HandSHeadRun.topDef (OpenLaw.row PySem.Challenge.rw_tabgrow_k26_texts_read).prog 44) (kwd := []) TG.ob_eq
    (by kernel_rfl) (fun s => by kernel_rfl) TG.run (by kernel_rfl) (by kernel_rfl) (by kernel_rfl) (by rfl) (by first | assumption | decide +kernel) (by decide +kernel) ⟨rfl, rfl, rfl, rfl, rfl, by decide +kernel⟩ ?hw ?hc
  case hw => w_witness2
  case hc =>
    refine LamX.walk_ofTsE (l := PySem.Challenge.rw_tabgrow_k26_texts_read) (n := 63) (k := 14) (x := "_law_script") (CX := fun _ => L2.CX0) rfl (by decide) (by kernel_rfl) ⟨rfl, by decide, by decide⟩ ?F (fun _ _ _ _ _ z => z)
    intro w mg fa h Y G hmg0
    obtain ⟨K, KX, c, hv⟩ := Y
    have hmg : mg ("law" : PySem.Str) = some (.ref fa) := by
      have e : (HandSHeadRun.topDef (OpenLaw.row PySem.Challenge.rw_tabgrow_k26_texts_read).prog 44).name = ("law" : PySem.Str) := by kernel_rfl
      rw [← e]
      exact hmg0
    exact ⟨K, KX, TG.facts KX G hmg c hv⟩

