import PyProof.Rows.All
import Wide.All
import OpenK.AllK
import Wide.FinOn
import HandS.ForMost
import HandS.Exc
import HandS.GenList
import HandS.AnyAll
import HandS.IsInst
import HandS.StrMore
import HandS.Flow
import HandS.TupAny
import HandS.EndTab
import HandS.Walk
import HandS.Lambda
import HandS.Codes
import KE.KIntText
import KE.KxText
import KE.KStateDown
import HandS.Head0
import HandS.Head1
import HandS.Head2
import HandS.HeadEnd
import HandS.HeadHook1
import HandS.HeadHook2
import HandS.HeadHook3
import HandS.HeadHook4
import HandS.HeadWalk
import PyProof.WalkInts
import PyProof.ZipIter
import HandS.Zip
import HandS.Nested
import HandS.GenOver
import KE.KLam
import HandS.Replace
import HandS.ReplaceLit
import HandS.ReplaceDef
import PyProof.ToksMono
import HandS.ReplaceList
import HandS.ExcSuper
import HandS.ExcInit
import KE.KExcSuper
import KE.KSuper
import KE.KSuperObj
import HandS.FStr
import HandS.WordsExc
import HandS.ExcOwn
import PySem.Challenge.RW_tabgrow_k06_lines_read_back
import HandS.ExcIs
import HandS.ExcField
import KE.KExcIs
import HandS.Style
import PyProof.StrOps2
import HandS.Wide
set_option Elab.async false
set_option linter.all false
set_option maxRecDepth 1000000
set_option maxHeartbeats 20000000
namespace Gx
open PySem PySem.Spec PyProof.Rows L2 GenW
abbrev gE (X : Cx) (sc : Scope) (C : Addr) (code : Value) : Env :=
  genEnv sc (cloFrom X.env.cells sc.names []) C code builtinsNs X.env
/-- the context of the element -/
def gCx (X : Cx) (A : Around) (sc : Scope) (x : Str) (code : Value) (s4 : Shared) (H4 : Hp) (fp : List Addr) : Cx where
  prog := X.prog
  w := X.w
  K := X.K
  mg := X.mg
  base := X.base
  A := A.deeper (gE X sc s4.heap.objs.size code)
  N := [x]
  s_0 := s4
  H_0 := H4
  env := gE X sc s4.heap.objs.size code
  outer := X.stack
  stack := gE X sc s4.heap.objs.size code :: X.stack
  ex := fp
  fn := fun _ => false
  calm := true
  pn := []
  xe := fun _ _ => False
/-- the scope of a generator expression that captures nothing -/
structure GSc (sc : Scope) (x : Str) : Prop where
  kind : sc.kind = .function
  co : sc.isCoroutine = false
  cell : ∀ y ∈ sc.names, y.2 ≠ .cell
  free : ∀ y ∈ sc.names, y.2 ≠ .free
  dot : sc.names.lookup (".0" : Str) = some NameKind.local
  loc : sc.names.lookup x = some .local
section
variable {X : Cx} {pins : List (Addr × Obj)} {σ : L2.St} {H : Hp} {s : Shared} {A : Around} {sc : Scope} {x : Str} {code : Value} {fp : List Addr}
theorem no_cells (S : GSc sc x) (cells : List (Str × Addr)) {y : Str} {c : Addr} (h : (cloFrom cells sc.names []).lookup y = some c) : False := by
  rcases cloFrom_mem (PySem.mem_of_lookup h) with z | ⟨z, _⟩
  · cases z
  · exact S.free _ z rfl
theorem gx_inv (I : Inv X pins σ H s) (S : GSc sc x) (hd : A.handled = none) (hfr : A.frames = some X.stack) (hf : ∀ b ∈ fp, FpOk X pins H b)
    (hlt : ∀ b ∈ fp, b < s.heap.objs.size) {s5 : Shared} {m : Str → Option Value} (os : s5.os = s.os) (bare : AllBare s5.gens)
    (keep : ∀ b o, s.heap.get? b = some o → s5.heap.get? b = some o) (hns : s5.heap.Ns s.heap.objs.size m) :
    Inv (gCx X A sc x code s H fp) [] [none] H s5 := by
  have nc : ∀ {y : Str} {c : Addr}, (gCx X A sc x code s H fp).env.cells.lookup y = some c → False := fun {y c} h => no_cells S _ h
  refine ⟨⟨I.ok.mod, S.kind, I.ok.glob, rfl, Nat.le_refl _, fun y z c e _ => (nc e).elim, fun y hy => ?_, fun y c _ e => (nc e).elim, fun _ => hd,
      Around.frames_deeper hfr, .inr ⟨rfl, rfl⟩, fun b hb => ⟨Nat.ne_of_lt (hlt b hb), fun y c e => (nc e).elim⟩, I.bs, Nat.le_trans I.ok.bsz I.sz,
      fun b o e hb => ?_, fun b hb z => ?_, I.stack, I.stkFree⟩,
    os, bare, Un.kept keep, ⟨m, hns, fun i y v _ e2 _ => ?_⟩, fun y c e => (nc e).elim, I.hok.fresh (Nat.le_refl _), fun y c e => (nc e).elim,
    fun p hp => ?_, I.hok.kept keep, rfl⟩
  · rcases hy with z | z
    · exact absurd rfl (S.cell _ (PySem.mem_of_lookup (show sc.names.lookup y = some .cell from z)))
    · exact absurd rfl (S.free _ (PySem.mem_of_lookup (show sc.names.lookup y = some .free from z)))
  · rcases (hf b hb).2.2.2.1 with z | z
    · exact I.ok.noex b o e z
    · exact absurd (Nat.lt_of_lt_of_le (Heap.lt_size e) (Nat.le_trans I.ok.bsz z)) (Nat.lt_irrefl _)
  · rcases List.mem_cons.mp (I.stkSub b z) with q | q
    · exact (hf b hb).2.1 q
    · exact (hf b hb).2.2.1 q
  · match i, e2 with
    | 0, e2 => cases e2
    | i + 1, e2 => simp at e2
  · exact absurd (show p ∈ ([] : List (Addr × Obj)) from hp) (by simp)
/-- only the generators' states differ -/
theorem regens {s' : Shared} (I : Inv X pins σ H s) (os : s'.os = s.os) (hh : ∀ b o, s.heap.get? b = some o → s'.heap.get? b = some o) (hb : AllBare s'.gens) : Inv X pins σ H s' :=
  I.call' (ch := []) os (Un.kept hh) (I.hok.kept hh) hb fun b z => by simp at z
/-- the consumer's own list, if it has one -/
def Held (So : Option Addr) (Rel : Array Value → Prop) (ps : List (Addr × Obj)) : Prop :=
  match So with
  | none => ps = []
  | some S => ∃ acc c, ps = [(S, lstObj acc c)] ∧ Rel acc
structure Woke (So : Option Addr) (Rel : Array Value → Prop) (s s' : Shared) : Prop where
  os : s'.os = s.os
  bare : AllBare s'.gens
  keep : ∀ b o, So ≠ some b → s.heap.get? b = some o → s'.heap.get? b = some o
  own : ∀ S, So = some S → ∃ acc' c', s'.heap.get? S = some (lstObj acc' c') ∧ Rel acc'
theorem woken {Z : Cx} {q ps : List (Addr × Obj)} {So : Option Addr} {Rel Rel' : Array Value → Prop} {s' : Shared} (I : Inv Z (q ++ ps) σ H s) (hps : Held So Rel ps) (hq : ∀ p ∈ Z.pn ++ q, So ≠ some p.1)
    (hS : ∀ S, So = some S → Z.s_0.heap.objs.size ≤ S ∧ S ≠ Z.env.locals ∧ ∀ y c, Z.env.cells.lookup y = some c → c ≠ S) (k : Woke So Rel' s s') :
    ∃ ps', Held So Rel' ps' ∧ Inv Z (q ++ ps') σ H s' ∧ ∀ p ∈ ps', s'.heap.get? p.1 = some p.2 := by
  cases So with
  | none =>
    have e : ps = [] := hps
    subst e
    exact ⟨[], rfl, regens I k.os (fun b o e => k.keep b o (by simp) e) k.bare, fun p hp => by simp at hp⟩
  | some S =>
    obtain ⟨acc, c, e, _⟩ := hps
    subst e
    obtain ⟨h1, h2, h3, h4, _⟩ := I.pin (S, lstObj acc c) (List.mem_append_right _ (List.mem_append_right _ (List.mem_singleton.mpr rfl)))
    obtain ⟨acc', c', e', hR⟩ := k.own S rfl
    obtain ⟨g1, g2, g3⟩ := hS S rfl
    have I0 : Inv Z q σ H s := I.pins_of fun p hp => I.pin p (List.mem_append_right _ (List.mem_append_left _ hp))
    have nS : ∀ b u, H b = some u → b ≠ S := fun b u e z => by rw [z, h2] at e; cases e
    have kp : ∀ b o, b ≠ S → s.heap.get? b = some o → s'.heap.get? b = some o := fun b o hb e => k.keep b o (fun z => hb (Option.some.inj z).symm) e
    have ni : ∀ b : Addr, b ∉ [S] → b ≠ S := fun b hb e => hb (by rw [e]; exact List.mem_singleton.mpr rfl)
    have J : Inv Z q σ H s' := by
      refine I0.call' (ch := [S]) k.os ⟨fun b o e _ _ hx => kp b o (ni b hx) e, fun b o e _ _ hx => ⟨o.slots, kp b o (ni b hx) e⟩, fun _ _ _ n _ => n, fun b o e hx => ⟨o, kp b o (ni b hx) e⟩,
        fun _ _ e => e, fun _ _ _ e => e, fun _ _ e => ⟨#[], by rw [e]; simp⟩⟩ (fun b u e => ?_) k.bare fun b hb => ?_
      · refine (I0.hok b u e).stay (fun d v hd z => kp d v ?_ z) (fun _ z => z) fun _ _ z => z
        rcases hd with z | z
        · rw [z]; exact nS b u e
        · exact nS d _ z
      · have eb : b = S := List.mem_singleton.mp hb
        subst eb
        exact ⟨.inr g1, g2, g3, fun p hp z => hq p hp (by rw [z])⟩
    refine ⟨[(S, lstObj acc' c')], ⟨acc', c', rfl, hR⟩, J.pins_of fun p hp => ?_, fun p hp => by rw [List.mem_singleton.mp hp]; exact e'⟩
    rcases List.mem_append.mp hp with z | z
    · exact J.pin p (List.mem_append_right _ z)
    · rw [List.mem_singleton.mp z]
      exact ⟨e', h2, h3, h4, fun v z => by cases z⟩
abbrev WT := Nat → List V → Hp → Prop
/-- an item is handed out -/
def GYx (Z : Cx) (q : List (Addr × Obj)) (So : Option Addr) (Rel : List V → Array Value → Prop) (W : WT) (Ny : Nat → List V → V → Hp → Prop) : Protocol := fun n s₀ v s1 kap =>
  ∃ m ys y σ H ps, m < n + 1 ∧ RelV y v ∧ Held So (Rel ys) ps ∧ (∀ p ∈ ps, s₀.heap.get? p.1 = some p.2) ∧ Inv Z (q ++ ps) σ H s1 ∧ Ny m ys y H ∧ ∀ s', Woke So (Rel (ys ++ [y])) s1 s' → ∀ m', m' < m → W m' (ys ++ [y]) H → kap (.send .none) s'
def GFx (Z : Cx) (q : List (Addr × Obj)) (So : Option Addr) (Rel : List V → Array Value → Prop) (Ns : List V → Hp → Prop) (s₀ s1 : Shared) : Prop :=
  ∃ ys σ H ps, Held So (Rel ys) ps ∧ (∀ p ∈ ps, s₀.heap.get? p.1 = some p.2) ∧ Inv Z (q ++ ps) σ H s1 ∧ Ns ys H
abbrev GRx (Z : Cx) (q : List (Addr × Obj)) (So : Option Addr) (Rel : List V → Array Value → Prop) (Ns : List V → Hp → Prop) : GenEnd := fun n s₀ r s₁ =>
  ((r = .ok (.ret .none) ∨ r = .ok .next) ∧ (fun (_ : Nat) (t : Shared) s => GFx Z q So Rel Ns t s) n s₀ s₁) ∨ ∃ e, r = .error e ∧ (fun (_ : Value) (_ : Shared) => False) e s₁
theorem seg_turns {elt iter : Expr} {px : Pos} {pos : Pos} {it : Addr} {J : It} {tn : Nat → Heap → Prop} {te : TE} {W : WT} {Ny : Nat → List V → V → Hp → Prop} {Ns : List V → Hp → Prop} {s4 : Shared} {H4 : Hp}
    {q : List (Addr × Obj)} {So : Option Addr} {Rel : List V → Array Value → Prop}
    (S : GSc sc x) (T : Turn X.prog X.w X.K (.Name x px) J fp it tn)
    (stat : ∀ b ∈ fp, b ≠ s4.heap.objs.size ∧ b ∉ frs X.stack ∧ (∀ p ∈ q, p.1 ≠ b) ∧ So ≠ some b)
    (hq : ∀ p ∈ q, So ≠ some p.1) (hS : ∀ S', So = some S' → s4.heap.objs.size < S')
    (he : PE (gCx X A sc x code s4 H4 fp) elt te)
    (step : ∀ m ys H, W m ys H → (J.stop ys.length H ∧ Ns ys H) ∨ (J.go ys.length H ∧ ∀ v H', J.yld ys.length H v H' → te [some v] H' (Ny m ys))) :
    ∀ (n m : Nat) (ys : List V) (s₀ s : Shared) (σ : L2.St) (H : Hp) (ps : List (Addr × Obj)), m < n → Held So (Rel ys) ps → (∀ p ∈ ps, s₀.heap.get? p.1 = some p.2) → W m ys H → Inv (gCx X A sc x code s4 H4 fp) (q ++ ps) σ H s → tn ys.length s.heap → (∀ b ∈ fp, H b = none) →
      Seg (model X.prog X.w) A (GRx (gCx X A sc x code s4 H4 fp) q So Rel Ns) (GYx (gCx X A sc x code s4 H4 fp) q So Rel W Ny) n s₀
        (.compLoop (.GeneratorExp elt [⟨.Name x px, iter, [], 0⟩] sc pos) 0 (.ref it) .none (gE X sc s4.heap.objs.size code))
        ((model X.prog X.w).den (.compLoop (.GeneratorExp elt [⟨.Name x px, iter, [], 0⟩] sc pos) 0 (.ref it) .none (gE X sc s4.heap.objs.size code))) [] s := by
  have nc : ∀ {y : Str} {c : Addr}, (gCx X A sc x code s4 H4 fp).env.cells.lookup y = some c → False := fun {y c} h => no_cells S _ h
  intro n
  induction n with
  | zero => intro m _ _ _ _ _ _ hm; exact absurd hm (Nat.not_lt_zero _)
  | succ n ih =>
    intro m ys s₀ s σ H ps hm hps hs0 hW I htn hfn
    have fok : ∀ {H' : Hp}, (∀ b ∈ fp, H' b = none) → ∀ b ∈ fp, FpOk (gCx X A sc x code s4 H4 fp) (q ++ ps) H' b := fun {H'} hn b hb => by
      obtain ⟨a1, a2, a3, a4⟩ := stat b hb
      refine ⟨hn b hb, a1, a2, .inl hb, fun y c e => (nc e).elim, fun p hp => ?_⟩
      rcases List.mem_append.mp (show p ∈ q ++ ps from hp) with z | z
      · exact a3 p z
      · cases So with
        | none =>
          have e : ps = [] := hps
          rw [e] at z
          simp at z
        | some S' =>
          obtain ⟨acc, c, e, _⟩ := hps
          rw [e] at z
          rw [List.mem_singleton.mp z]
          exact fun w => a4 (by rw [← w])
    show Seg _ A _ _ _ s₀ _ ((compTurn (.GeneratorExp elt [⟨.Name x px, iter, [], 0⟩] sc pos) 0 (.ref it) .none (gE X sc s4.heap.objs.size code)).onRaise (leaving (gE X sc s4.heap.objs.size code))) [] s
    rw [compTurn_gen, Sem.onRaise_eq_wrap]
    refine seg_bind_wrap (wpAny_standAt ?_)
    rcases step m ys H hW with ⟨stop, qn⟩ | ⟨go, st⟩
    · refine seg_bind_wrap (thn (T.done (gCx X A sc x code s4 H4 fp) rfl rfl rfl rfl ys.length (q ++ ps) s σ H _ I (fok hfn) htn stop) fun r s5 ⟨hr, I5⟩ => ?_)
      subst hr
      exact seg_end (.ok .next) (.inl ⟨.inr rfl, ys, σ, H, ps, hps, hs0, I5, qn⟩)
    · refine seg_bind_wrap (thn (T.item (gCx X A sc x code s4 H4 fp) rfl rfl rfl rfl ys.length (q ++ ps) s σ H _ I (fok hfn) htn go) fun r s5 ⟨u, hr, h5⟩ => ?_)
      subst hr
      refine seg_bind_wrap (thn h5 fun _ s6 ⟨v, H6, I6, r6, y6, tn6, fn6⟩ => ?_)
      have I6' := I6.pinned (fok fn6) (T.obj _ _ tn6)
      have pg : PG (gCx X A sc x code s4 H4 fp) (.Name x px) (gName 0) := pg_name (i := 0) (List.nodup_cons.mpr ⟨by simp, List.nodup_nil⟩) rfl (.inl S.loc) (.inr S.loc)
      have eσ : σ.set 0 (some v) = [some v] := by
        have hl : σ.length = 1 := I.len
        match σ, hl with
        | [_], _ => rfl
      refine seg_bind_wrap (wpAny_mono (pg.run _ s6 σ H6 v u (fun σ' H' => σ' = [some v] ∧ H' = H6) I6' r6 ⟨eσ, rfl⟩) (fun _ s7 h7 => ?_) fun _ _ z => z.elim)
      obtain ⟨σ7, H7, I7, eσ7, eH7⟩ := h7
      subst eσ7 eH7
      simp only [List.forIn_nil]
      refine seg_bind_wrap (wpAny_pure ?_)
      simp only [if_true]
      have hy : ∀ v, yieldOut (gE X sc s4.heap.objs.size code) v = yieldValue v := fun v => by
        simp only [yieldOut, show (gE X sc s4.heap.objs.size code).scope.isCoroutine = false from S.co, Bool.false_eq_true, if_false]
      simp only [hy]
      rw [Sem.bind_eq_wrap', Sem.bind_eq_wrap', Sem.wrap_wrap, Sem.wrap_wrap]
      refine seg_wrap (wpAny_mono (he.run _ s7 [some v] H7 _ I7 (st v H7 y6)) (fun w s8 h8 => ?_) fun _ _ z => z.elim)
      obtain ⟨y, H8, I8, r8, ny⟩ := h8
      have fn8 : ∀ b ∈ fp, H8 b = none := fun b hb => by
        obtain ⟨o, e, d⟩ := T.obj _ _ tn6 b hb
        exact (I8.pin (b, o) (List.mem_append_right _ (List.mem_append_right _ (mem_pinsAt hb e)))).2.1
      have tn8 : tn (ys.length + 1) s8.heap := T.keep _ _ _ tn6 fun b hb o e => (I8.pin (b, o) (List.mem_append_right _ (List.mem_append_right _ (mem_pinsAt hb e)))).1
      refine seg_at (seg_yield rfl rfl rfl ⟨m, ys, y, [some v], H8, ps, hm, r8, hps, hs0, I8.unpinned, ny, fun s9 wk m' hm' w' => ?_⟩)
      obtain ⟨ps', hps', I9, e9⟩ := woken I8.unpinned hps (fun p hp => hq p hp) (fun S' e => ⟨Nat.le_of_lt (hS S' e), Nat.ne_of_gt (hS S' e), fun y c e => (nc e).elim⟩) wk
      refine seg_again rfl (ih m' (ys ++ [y]) s9 s9 [some v] H8 ps' (by omega) hps' e9 w' I9 ?_ fn8)
      rw [List.length_append, List.length_singleton]
      exact T.keep _ _ _ tn8 fun b hb o e => wk.keep b o (stat b hb).2.2.2 e
end
end Gx
namespace Gx
open PySem PySem.Spec PyProof.Rows L2 GenW
section
variable {X : Cx} {pins : List (Addr × Obj)} {σ : L2.St} {H : Hp} {s : Shared} {sc : Scope} {x : Str}
theorem seg_begin {A : Around} {elt iter : Expr} {px pos : Pos} {it : Addr} {J : It} {fp : List Addr} {tn : Nat → Heap → Prop} {cenv : Env} {R : GenEnd} {Y : Protocol} {n : Nat} {s₀ : Shared}
    (T : Turn X.prog X.w X.K (.Name x px) J fp it tn) (ht : tn 0 s.heap)
    (loop : Seg (model X.prog X.w) A R Y n s₀ (.compLoop (.GeneratorExp elt [⟨.Name x px, iter, [], 0⟩] sc pos) 0 (.ref it) .none cenv) ((model X.prog X.w).den (.compLoop (.GeneratorExp elt [⟨.Name x px, iter, [], 0⟩] sc pos) 0 (.ref it) .none cenv)) [] s) :
    Seg (model X.prog X.w) A R Y n s₀ (.compStart (.GeneratorExp elt [⟨.Name x px, iter, [], 0⟩] sc pos) 0 (.ref it) .none cenv) ((model X.prog X.w).den (.compStart (.GeneratorExp elt [⟨.Name x px, iter, [], 0⟩] sc pos) 0 (.ref it) .none cenv)) [] s := by
  show Seg _ A R Y n s₀ _ ((compStart (.GeneratorExp elt [⟨.Name x px, iter, [], 0⟩] sc pos) 0 (.ref it) .none cenv).onRaise (leaving cenv)) [] s
  unfold compStart
  rw [Sem.onRaise_eq_wrap]
  show Seg _ A R Y n s₀ _ ((ask >>= _).wrap _ _ _ _) [] s
  refine seg_bind_wrap (wpAny_askSetting ?_)
  split
  · exact seg_again rfl loop
  · first
      | exact seg_bind_wrap (wpAny_rule (seg_bind_wrap (wpAny_standAt (seg_bind_wrap (T.self _ 0 s _ _ ht (seg_again rfl loop))))))
      | (refine seg_bind_wrap (wpAny_rule ?_); show Seg _ A R Y n s₀ _ ((standAt iter.pos >>= _).wrap _ _ _ _) [] s; exact seg_bind_wrap (wpAny_standAt (seg_bind_wrap (T.self _ 0 s _ _ ht (seg_again rfl loop)))))
/-- the reading of a generator expression: W the state between two turns, by a measure, what was handed out, the heap -/
def tGen (P : Addr) (wi : TI) (te : TE) (NyOf : WT → Nat → List V → V → Hp → Prop) (Ns : List V → Hp → Prop) : L2.St → Hp → Prop := fun σ H =>
  wi σ H fun J H1 => GxR.TabG H1 P ∧ ∀ H2, GxR.Tabbed P H1 H2 → ∃ W : WT, (∃ m, W m [] H2) ∧ ∀ m ys H, W m ys H →
    (J.stop ys.length H ∧ Ns ys H) ∨ (J.go ys.length H ∧ ∀ v H', J.yld ys.length H v H' → te [some v] H' (NyOf W m ys))
theorem code_step {A : Around} {E : Value → Shared → Prop} {Q : Value → Shared → Prop} {c P : Addr} {gpos : Pos} (I : Inv X pins σ H s) (TB : GxR.TabB X.base X.mg c P) (hcode : X.env.code = .ref c) (hT : GxR.TabG H P)
    (h : ∀ (code : Value) (H3 : Hp) (s3 : Shared), GxR.Tabbed P H H3 → Inv X pins σ H3 s3 → (∀ b o, b ≠ P → s.heap.get? b = some o → s3.heap.get? b = some o) → Q code s3) :
    wpAny (model X.prog X.w) A (genexprCode X.env gpos (X.env.qual ++ "<genexpr>") sc) Q E s := by
  obtain ⟨ps, hP, ht⟩ := id hT
  have hPs : s.heap.get? P = some { cls := .none, data := .fields ps } := I.hok P _ hP
  have cd : PySem.W.CodeHd s.heap c P := TB.code.keeps I.bk
  cases hf : codeAmong gpos ps.toList with
  | none =>
    refine wpAny_genexprCodeX hcode (cd.code hPs ht) (cd.tab hPs) hf fun c' h' tk hx hge hlt hco' _ htab' _ => ?_
    obtain ⟨o1, vs, f1, tf, fl, tg, inF, tx, tt, op, _, _, _, _, _, _, _, _, _, htr, _⟩ := hco'
    have J := GxR.inv_tab (t' := tk) (g' := s.gens) (d' := s.drawn) I hP (fun b o hb e => hx b o hb e) htab'.2 I.bare
    exact h _ _ _ ⟨⟨_, upd_same, htr⟩, fun b hb => upd_ne hb⟩ J fun b o hb e => hx b o hb e
  | some cv =>
    refine wpAny_genexprCode_hit hcode (cd.code hPs ht) hf ?_
    exact h _ H s ⟨hT, fun _ _ => rfl⟩ I fun _ _ _ e => e
end
end Gx
namespace Gx
open PySem PySem.Spec PyProof.Rows L2 GenW
section
variable {X : Cx} {pins : List (Addr × Obj)} {σ : L2.St} {H : Hp} {s : Shared} {sc : Scope} {x : Str}
/-- a generator that has not begun, at a in s5 -/
def Begun1 (X : Cx) (pins : List (Addr × Obj)) (σ : L2.St) (k : Nat) (Rel : List V → Array Value → Prop) (NyOf : WT → Nat → List V → V → Hp → Prop) (Ns : List V → Hp → Prop) (a : Addr) (s5 : Shared) : Prop :=
  ∃ (g : Nat) (c : Code) (H4 : Hp), s5.heap.IsGen a g ∧ s5.gens[g]? = some (.fresh c) ∧ Inv X pins σ H4 s5 ∧ a < s5.heap.objs.size ∧
    ∀ (A : Around) (So : Option Addr) (s6 : Shared), Room (k + 1) A → A.frames = some X.stack → (∀ S, So = some S → s5.heap.objs.size ≤ S ∧ ∃ acc c, s6.heap.get? S = some (lstObj acc c) ∧ Rel [] acc) →
      (∀ b o, s5.heap.get? b = some o → s6.heap.get? b = some o) → s6.os = s5.os → AllBare s6.gens →
      ∃ (Z : Cx) (q : List (Addr × Obj)) (W : WT) (m0 : Nat),
        (∀ ps σz Hz s7, Inv Z (q ++ ps) σz Hz s7 → Inv X pins σ Hz s7 ∧ s7.heap.IsGen a g) ∧
        Seg (model X.prog X.w) A (GRx Z q So Rel Ns) (GYx Z q So Rel W (NyOf W)) (m0 + 1) s6 c ((model X.prog X.w).den c) [] s6
theorem gx_make {elt iter : Expr} {px gpos : Pos} {c P : Addr} {wi : TI} {te : TE} {k j : Nat} {Rel : List V → Array Value → Prop} {NyOf : WT → Nat → List V → V → Hp → Prop} {Ns : List V → Hp → Prop} {Q' : Value → Shared → Prop}
    (hr : Room j X.A) (TB : GxR.TabB X.base X.mg c P) (hcode : X.env.code = .ref c) (S : GSc sc x) (hi : PI X (.Name x px) iter wi)
    (he : ∀ (A : Around) (code : Value) (s4 : Shared) (H4 : Hp) (fp : List Addr), Room k (A.deeper (gE X sc s4.heap.objs.size code)) → PE (gCx X A sc x code s4 H4 fp) elt te)
    (hs : ∀ v, genFold iter X.env v = pure v) (I : Inv X pins σ H s) (h : tGen P wi te NyOf Ns σ H)
    (hQ : ∀ a s5, Begun1 X pins σ k Rel NyOf Ns a s5 → Q' (.ref a) s5) :
    wpAny (model X.prog X.w) X.A (eval (.GeneratorExp elt [⟨.Name x px, iter, [], 0⟩] sc gpos) X.env) Q' X.xe s := by
  refine wpAny_GeneratorExp_make S.co (closure_ok fun y hy z => absurd z (S.free y hy)) S.cell S.dot S.kind hr.depth ?_ hs
  refine thn (hi.run pins s σ H _ I h) fun xv s1 h1 => thn h1 fun itv s2 h2 => ?_
  obtain ⟨it, fp, tn, J, H2, e, I2, T, st2, f2, hT, hW⟩ := h2
  subst e
  refine ⟨I2.nolimit, code_step I2 TB hcode hT fun code H3 s3 hTb I3 kp3 => ?_⟩
  obtain ⟨bm, ob, e1, e2, e3, e4, e5, e6, e7, e8⟩ := TB.bm
  refine wpAny_builtinsFor (m := X.mg) (by rw [I3.ok.glob]; exact I3.mod.glob.keeps I3.bk) e1 e2 (I3.bk _ _ e5) e6 e7 e8 fun h' hn' hs' => ?_
  obtain ⟨W, ⟨m0, w0⟩, step⟩ := hW H3 hTb
  have hTP : H2 P ≠ none := by
    obtain ⟨ps, z, _⟩ := hT
    rw [z]; exact fun q => nomatch q
  have nP : ∀ b ∈ fp, b ≠ P := fun b hb z => hTP (by rw [← z]; exact (f2 b hb).1)
  have f3 : ∀ b ∈ fp, FpOk X pins H3 b := fun b hb => ⟨(hTb.2 b (nP b hb)).trans (f2 b hb).1, (f2 b hb).2⟩
  have tn3 : tn 0 s3.heap := T.keep _ _ _ st2 fun b hb o q => kp3 b o (nP b hb) q
  have lt3 : ∀ b ∈ fp, b < s3.heap.objs.size := fun b hb => by
    obtain ⟨o, q, _⟩ := T.obj _ _ tn3 b hb
    exact Heap.lt_size q
  have hsz : h'.objs.size = s3.heap.objs.size + 1 := by rw [hs'.1, Heap.size_push]
  have kp' : ∀ b o, s3.heap.get? b = some o → h'.get? b = some o := fun b o q => hs'.extBut b o (Nat.ne_of_lt (Heap.lt_size q)) (Heap.get?_push_of_some _ q)
  refine hQ _ _ ⟨s3.gens.size, _, H3, ⟨_, _, _, Heap.get?_push_size _ rfl, rfl, rfl, rfl⟩, Array.getElem?_push_size .., ?_, ?_, fun A So s6 hrA hfr hSo kp6 os6 b6 => ?_⟩
  · exact regens I3 rfl (fun b o q => Heap.get?_push_of_some _ (kp' b o q)) (AllBare.push I3.bare rfl)
  · show h'.objs.size < (h'.push _).objs.size
    rw [Heap.size_push]; exact Nat.lt_succ_self _
  · have kp36 : ∀ b o, s3.heap.get? b = some o → s6.heap.get? b = some o := fun b o q => kp6 b o (Heap.get?_push_of_some _ (kp' b o q))
    have hns6 : s6.heap.Ns s3.heap.objs.size (fun y => if y = ".0" then some (.ref it) else none) := by
      obtain ⟨o, es, ep, ho, r⟩ := hn'
      exact ⟨o, es, ep, kp6 _ _ (Heap.get?_push_of_some _ ho), r⟩
    have IZ := gx_inv (code := code) (A := A) I3 S hrA.hd hfr f3 lt3 (s5 := s6) os6 b6 kp36 hns6
    have big : ∀ b, s3.heap.objs.size < b → H3 b = none ∧ b ≠ s3.heap.objs.size ∧ b ∉ frs X.stack := fun b hb => by
      refine ⟨I3.hok.fresh (Nat.le_of_lt hb), Nat.ne_of_gt hb, fun z => ?_⟩
      rcases List.mem_cons.mp (I3.stkSub b z) with w | w
      · exact absurd (Nat.lt_trans (by rw [w]; exact I3.lt) hb) (Nat.lt_irrefl _)
      · exact I3.nofs (Nat.le_of_lt hb) w
    have ha : s3.heap.objs.size < h'.objs.size := by rw [hsz]; exact Nat.lt_succ_self _
    have hga := kp6 h'.objs.size _ (Heap.get?_push_size _ rfl)
    have hSb : ∀ S', So = some S' → h'.objs.size < S' := fun S' z => by
      have q := (hSo S' z).1
      have q' : (h'.push _).objs.size ≤ S' := q
      rw [Heap.size_push] at q'
      exact q'
    obtain ⟨ps, hps, IZ2⟩ : ∃ ps, Held So (Rel []) ps ∧ Inv (gCx X A sc x code s3 H3 fp) ([(h'.objs.size, _)] ++ ps) [none] H3 s6 := by
      cases So with
      | none =>
        refine ⟨[], rfl, IZ.pins_of fun p hp => ?_⟩
        rw [List.append_nil] at hp
        rw [List.mem_singleton.mp hp]
        obtain ⟨b1, b2, b3⟩ := big _ ha
        exact ⟨hga, b1, b2, b3, fun v z => by cases z⟩
      | some S' =>
        obtain ⟨_, acc, cc, q2, hR⟩ := hSo S' rfl
        refine ⟨[(S', lstObj acc cc)], ⟨acc, cc, rfl, hR⟩, IZ.pins_of fun p hp => ?_⟩
        rcases List.mem_append.mp hp with z | z
        · rw [List.mem_singleton.mp z]
          obtain ⟨b1, b2, b3⟩ := big _ ha
          exact ⟨hga, b1, b2, b3, fun v z => by cases z⟩
        · rw [List.mem_singleton.mp z]
          obtain ⟨b1, b2, b3⟩ := big _ (Nat.lt_trans ha (hSb S' rfl))
          exact ⟨q2, b1, b2, b3, fun v z => by cases z⟩
    have hSne : ∀ b, b ≤ h'.objs.size → So ≠ some b := fun b hb z => absurd (Nat.lt_of_lt_of_le (hSb b z) hb) (Nat.lt_irrefl _)
    refine ⟨gCx X A sc x code s3 H3 fp, [(h'.objs.size, { cls := .type "generator", data := .fields #[.int s3.gens.size 0, .str "<genexpr>" (s3.toks + 1), .str (X.env.qual ++ "<genexpr>") (s3.toks + 1 + 1)] })], W, m0, fun ps σz Hz s7 J7 => ⟨?_, ?_⟩, ?_⟩
    · refine I3.call' (ch := fp) J7.os J7.base J7.hok J7.bare fun b hb => ?_
      obtain ⟨_, a2, _, a4, a5, a6⟩ := f3 b hb
      exact ⟨a4, a2, a5, a6⟩
    · exact ⟨_, _, _, (J7.pin _ (List.mem_append_right _ (List.mem_append_left _ (List.mem_singleton.mpr rfl)))).1, rfl, rfl, rfl⟩
    · refine seg_begin T (T.keep _ _ _ tn3 fun b hb o q => kp36 b o q) ?_
      refine seg_turns S T (fun b hb => ⟨Nat.ne_of_lt (lt3 b hb), fun z => ?_, fun p hp z => ?_, hSne b (Nat.le_of_lt (Nat.lt_trans (lt3 b hb) ha))⟩) (fun p hp => ?_) (fun S' z => Nat.lt_trans ha (hSb S' z)) (he A code s3 H3 fp (hrA.deeper _)) step
        (m0 + 1) m0 [] s6 s6 [none] H3 ps (Nat.lt_succ_self _) hps (fun p hp => (IZ2.pin p (List.mem_append_right _ (List.mem_append_right _ hp))).1) w0 IZ2 (T.keep _ _ _ tn3 fun b hb o q => kp36 b o q) fun b hb => (f3 b hb).1
      · rcases List.mem_cons.mp (I3.stkSub b z) with w | w
        · exact (f3 b hb).2.1 w
        · exact (f3 b hb).2.2.1 w
      · rw [List.mem_singleton.mp hp] at z
        have q : h'.objs.size = b := z
        exact absurd (Nat.lt_trans (lt3 b hb) ha) (by rw [q]; exact Nat.lt_irrefl _)
      · rw [List.mem_singleton.mp hp]
        exact hSne _ (Nat.le_refl _)
end
end Gx
namespace Gx
open PySem PySem.Spec PyProof.Rows L2 GenW
section
variable {X : Cx} {pins : List (Addr × Obj)} {σ : L2.St} {H : Hp} {s : Shared} {sc : Scope} {x : Str}
def NyAll (Qb : Bool → Hp → Prop) (W : WT) : Nat → List V → V → Hp → Prop := fun m ys y H => ∃ b : Bool, y = .bl b ∧ if b = true then ∃ m', m' < m ∧ W m' (ys ++ [y]) H else Qb false H
abbrev noRel : List V → Array Value → Prop := fun _ _ => True
theorem all_turns {Z : Cx} {q : List (Addr × Obj)} {W : WT} {Qb : Bool → Hp → Prop} {A : Around} {a : Addr} {g : Nat} {Rr : Result → Shared → Prop} (hh : A.handled = none) (hd : A.depth < recursionLimit)
    (fin : ∀ ps σz Hz s7, Inv Z (q ++ ps) σz Hz s7 → Inv X pins σ Hz s7 ∧ s7.heap.IsGen a g)
    (hdone : ∀ b H' s', Inv X pins σ H' s' → Qb b H' → Rr (.ok (.ret (.bool b))) s') :
    ∀ (n : Nat) (s : Shared), s.heap.IsGen a g → s.heap.NoLimit →
      (∃ gs, s.gens[g]? = some gs ∧ gs.Goes (model X.prog X.w) A.in1.in1 (GRx Z q none noRel fun _ => Qb true) (GYx Z q none noRel W (NyAll Qb W)) n (.send .none) (s.setGen g .running)) →
      codeAny (model X.prog X.w) A (.builtin "all.loop" ⟨[.ref a], []⟩) Rr s := by
  intro n
  induction n using Nat.strongRecOn with
  | ind n ih =>
    intro s hg hl ⟨gs, hgs, hgo⟩
    have hgl : g < s.gens.size := (Array.getElem?_eq_some_iff.mp hgs).1
    refine codeAny_builtin F.entry_all_loop ?_; rw [Around.under_plainId F.plain_all_loop _]
    show wpAny _ A.in1 (pyNext (.ref a) >>= _) _ _ s
    refine wpAny_bind (wpAny_gsz (n := g + 1) hgl (next_genG (A := A.in1) hh hl hd hg hgs hgo (fun v s₁ gs' hbare hv => ?_) (fun s₁ hp h' hk => ?_) fun e s₁ he => he.elim))
    · intro hsz
      obtain ⟨m, ys, y, σz, Hz, ps, hm, rv, hps, _, J, ⟨b, eb, hb⟩, hkap⟩ := hv
      subst eb
      have eps : ps = [] := hps
      subst eps
      have ev : v = Value.bool b := rv
      subst ev
      obtain ⟨I1, g1⟩ := fin _ _ _ _ J
      have hsz1 : g < s₁.gens.size := by
        have q1 : (s₁.setGen g gs').gens.size = s₁.gens.size := setGen_size _ _ _
        have q2 : g + 1 ≤ (s₁.setGen g gs').gens.size := hsz
        omega
      have bare2 : AllBare (s₁.setGen g gs').gens := allBare_setGen I1.bare hbare
      refine wpAny_bind (wpAny_holding (wpAny_truthy_bool ?_))
      refine wpAny_bind (wpAny_letGo ?_)
      cases b with
      | true =>
        obtain ⟨m', hm', hw⟩ : ∃ m', m' < m ∧ W m' (ys ++ [V.bl true]) Hz := by simpa using hb
        simp only [if_true]
        cases n with
        | zero => omega
        | succ n =>
          refine wpAny_pure ⟨plainId_quiet F.plain_all_loop _, ih n (Nat.lt_succ_self n) (s₁.setGen g gs') g1 I1.nolimit ⟨gs', setGen_at hsz1, ?_⟩⟩
          exact hkap ((s₁.setGen g gs').setGen g .running) ⟨rfl, allBare_setGen bare2 rfl, fun b o _ e => e, fun S z => by cases z⟩ m' hm' hw
      | false =>
        have hq : Qb false Hz := by simpa using hb
        simp only [Bool.false_eq_true, if_false]
        exact wpAny_bind (wpAny_rule (wpAny_pure (hdone false Hz _ (regens I1 rfl (fun _ _ e => e) bare2) hq)))
    · intro hsz
      obtain ⟨ys, σz, Hz, ps, hps, _, J, hq⟩ := hp
      have eps : ps = [] := hps
      subst eps
      obtain ⟨I1, g1⟩ := fin _ _ _ _ J
      exact wpAny_bind (wpAny_rule (wpAny_pure (hdone true Hz _ (regens I1 rfl (fun b o e => hk b o e) (allBare_setGen I1.bare rfl)) hq)))
/-- all(elt for x in iter) -/
def tAllG (P : Addr) (wi : TI) (te : TE) : TE := fun σ H Q => tGen P wi te (NyAll fun b H => Q (.bl b) H) (fun _ H => Q (.bl true) H) σ H
theorem pe_allG {elt iter : Expr} {px p pos gpos : Pos} {c P : Addr} {wi : TI} {te : TE} {k : Nat}
    (hr : Room (k + 3) X.A) (hg : Gl X "all") (hm : X.mg "all" = none) (TB : GxR.TabB X.base X.mg c P) (hcode : X.env.code = .ref c) (S : GSc sc x) (hi : PI X (.Name x px) iter wi)
    (he : ∀ (A : Around) (code : Value) (s4 : Shared) (H4 : Hp) (fp : List Addr), Room k (A.deeper (gE X sc s4.heap.objs.size code)) → PE (gCx X A sc x code s4 H4 fp) elt te)
    (hs : ∀ v, genFold iter X.env v = pure v)
    (hst : starEach [.GeneratorExp elt [⟨.Name x px, iter, [], 0⟩] sc gpos] X.env = (false, eval (.GeneratorExp elt [⟨.Name x px, iter, [], 0⟩] sc gpos) X.env) :: starEach [] X.env := by rfl) :
    PE X (.Call (.Name "all" p) [.GeneratorExp elt [⟨.Name x px, iter, [], 0⟩] sc gpos] [] pos) (tAllG P wi te) := by
  refine ⟨fun pins s σ H Q I h => ?_⟩
  have hb : bootBuiltins "all" = some (.builtin "all") := by decide +kernel
  refine wpAny_Call_Name_kw (ld_blt I hg hm hb (PyProof.Rows.callWith_builtin1 ?_ hst (by rfl)))
  rw [hst]
  show wpAny _ _ (spliced ((false, eval (.GeneratorExp elt [⟨.Name x px, iter, [], 0⟩] sc gpos) X.env) :: backTo pos (starEach [] X.env))) _ _ s
  refine Calls.spliced_cons (gx_make (k := k) (Rel := noRel) hr TB hcode S hi he hs I h fun a s5 hB => Calls.spliced_nil ?_)
  obtain ⟨g, cd, H4, hgen, hfresh, I5, ha, wake⟩ := hB
  refine call_function_tree F.kind_all F.plain_all F.entry_all (F.args_all1 _) ?_
  unfold Builtin.«all»
  refine wpAny_bind (m := oneArg "all" _) (wpAny_pure (wpAny_bind (wpAny_pyIter_gen hgen ?_)))
  obtain ⟨Z, q, W, m0, fin, seg⟩ := wake X.A.in1.in1 none (s5.setGen g .running) ((hr.mono (by omega : k + 1 + 1 + 1 ≤ k + 3)).in1.in1) I.ok.frames (fun S z => by cases z) (fun _ _ e => e) rfl (allBare_setGen I5.bare rfl)
  refine wpAny_pure ⟨plainId_quiet F.plain_all_loop _, all_turns (Qb := fun b H => Q (.bl b) H) hr.hd hr.depth fin (fun b H' s' I' hq => ?_) (m0 + 1) s5 hgen I5.nolimit ⟨_, hfresh, rfl, seg⟩⟩
  exact ⟨.bl b, H', I', rfl, hq⟩
end
end Gx
namespace Gx
open PySem PySem.Spec PyProof.Rows L2 GenW
section
variable {X : Cx} {pins : List (Addr × Obj)} {σ : L2.St} {H : Hp} {s : Shared} {sc : Scope} {x : Str}
def MaxRel (ys : List V) (acc : Array Value) : Prop :=
  ∃ ns : List Int, ys = ns.map V.int ∧ ((ns = [] ∧ acc = #[]) ∨ ∃ b t, acc = #[.int b t, .int b t] ∧ b ∈ ns ∧ ∀ z ∈ ns, z ≤ b)
def NsMax (Qm : Int → Hp → Prop) : List V → Hp → Prop := fun ys H => ∃ ns : List Int, ys = ns.map V.int ∧ ns ≠ [] ∧ ∀ b, b ∈ ns → (∀ z ∈ ns, z ≤ b) → Qm b H
theorem map_int_inj {a b : List Int} (h : a.map V.int = b.map V.int) : a = b := by
  induction a generalizing b with
  | nil => cases b with
    | nil => rfl
    | cons _ _ => cases h
  | cons x a ih => cases b with
    | nil => cases h
    | cons y b =>
      rw [List.map_cons, List.map_cons] at h
      injection h with h1 h2
      injection h1 with h1
      rw [h1, ih h2]
theorem MaxRel.first {i : Int} {t : Tok} {ys : List V} (h : MaxRel ys #[]) : MaxRel (ys ++ [.int i]) #[.int i t, .int i t] := by
  obtain ⟨ns, rfl, h | ⟨b, u, e, _⟩⟩ := h
  · rw [h.1]
    exact ⟨[i], rfl, .inr ⟨i, t, rfl, by simp, by simp⟩⟩
  · have := congrArg Array.size e
    simp at this
theorem MaxRel.more {i b : Int} {t u : Tok} {ys : List V} (h : MaxRel ys #[.int b u, .int b u]) : MaxRel (ys ++ [.int i]) (if decide (i > b) = true then #[.int i t, .int i t] else #[.int b u, .int b u]) := by
  obtain ⟨ns, rfl, h | ⟨b', u', e, hb, hm⟩⟩ := h
  · have := congrArg Array.size h.2
    simp at this
  · have e' : b = b' := by
      have := congrArg (fun a : Array Value => a[0]?) e
      simp at this
      exact this.1
    subst e'
    refine ⟨ns ++ [i], by simp, .inr ?_⟩
    by_cases hi : i > b
    · rw [if_pos (decide_eq_true hi)]
      refine ⟨i, t, rfl, by simp, fun z hz => ?_⟩
      rcases List.mem_append.mp hz with q | q
      · exact Int.le_of_lt (Int.lt_of_le_of_lt (hm z q) hi)
      · rw [List.mem_singleton.mp q]; exact Int.le_refl _
    · rw [if_neg (by rw [decide_eq_false hi]; exact Bool.false_ne_true)]
      refine ⟨b, u, rfl, List.mem_append_left _ hb, fun z hz => ?_⟩
      rcases List.mem_append.mp hz with q | q
      · exact hm z q
      · rw [List.mem_singleton.mp q]; omega
theorem MaxRel.none {ys : List V} {Qm : Int → Hp → Prop} (h : MaxRel ys #[]) (q : NsMax Qm ys H) : False := by
  obtain ⟨ns, rfl, h | ⟨b', u', e, hb, hm⟩⟩ := h
  · obtain ⟨ms, e1, h2, _⟩ := q
    rw [h.1] at e1
    exact h2 (map_int_inj e1).symm
  · have := congrArg Array.size e
    simp at this
end
end Gx
namespace TG
open PySem L2
def top (i : Nat) : Stmt := PySem.Challenge.pw_tabgrow_k06_lines_read_back.main.body.getD i (.Pass ⟨0, 0, 0, 0⟩)
abbrev s_is_whole : Stmt := top 19
abbrev s_is_sign : Stmt := top 20
abbrev s_is_text : Stmt := top 21
abbrev s_check_lines : Stmt := top 22
abbrev s_are_places : Stmt := top 23
abbrev s_are_left_ends : Stmt := top 24
abbrev s_check_lists : Stmt := top 25
abbrev s_read_back : Stmt := top 27
abbrev s_cut : Stmt := top 28
abbrev s_begun : Stmt := top 30
abbrev s_take : Stmt := top 31
abbrev s_alike : Stmt := top 32
abbrev s_told : Stmt := top 33
abbrev s_all : Stmt := top 34
abbrev s_sign : Stmt := top 35
abbrev s_line : Stmt := top 36
abbrev s_lefts : Stmt := top 37
abbrev s_lcut : Stmt := top 38
abbrev s_bad : Stmt := top 39
abbrev s_law : Stmt := top 40
/-- the built-ins that the text calls are the built-ins still -/
structure Txt (mg : Str → Option Value) : Prop where
  isin : mg "isinstance" = none
  len : mg "len" = none
  range : mg "range" = none
  max : mg "max" = none
  min : mg "min" = none
  all : mg "all" = none
  str : mg "str" = none
  int : mg "int" = none
  bool : mg "bool" = none
  list : mg "list" = none
  tuple : mg "tuple" = none
  enum : mg "enumerate" = none
  ord : mg "ord" = none
def BoxAt (H : Hp) (b l : Addr) : Prop := ∃ (ns : List Int) (st : Int), H b = some (.lst [.ref l, .int st]) ∧ H l = some (.lst (ns.map V.int)) ∧ ns.length ≤ 63
/-- all but the box stays -/
def KB (b l : Addr) (H H' : Hp) : Prop := ∀ c o, H c = some o → c ≠ b → c ≠ l → H' c = some o
theorem KB.refl {b l : Addr} {H : Hp} : KB b l H H := fun _ _ h _ _ => h
theorem KB.trans {b l : Addr} {H H1 H2 : Hp} (x : KB b l H H1) (y : KB b l H1 H2) : KB b l H H2 := fun c o h n m => y c o (x c o h n m) n m
theorem box_ne {H : Hp} {b l : Addr} (x : BoxAt H b l) : b ≠ l := by
  obtain ⟨ns, st, h1, h2, _⟩ := x
  refine ne_of h1 h2 fun z => ?_
  injection z with z
  cases ns with
  | nil => cases z
  | cons n ns =>
    rw [List.map_cons] at z
    injection z with z _
    cases z
theorem nz {i : Int} (h : i ≠ 0) : i ≠ 0 := h
theorem at0 {α : Type} {v : α} {xs : List α} : atI (v :: xs) 0 = some v := atI_nat (j := 0) rfl
theorem ix0 {n : Nat} : ixN (n + 1) 0 = some 0 := by
  unfold ixN
  rw [if_pos (by decide), if_pos (by omega)]
  rfl
theorem small0 : ([] : List V).length ≤ sizeLine := Nat.zero_le _
theorem dp_ints {K : PySem.W.Frag} {H : Hp} : ∀ ns : List Int, DpAll K H (ns.map V.int) (ns.map PyData.int)
  | [] => .nil
  | n :: ns => .cons (.int n) (dp_ints ns)
theorem canAll_ints : ∀ ns : List Int, PyData.canLayAll0 (ns.map PyData.int) = true
  | [] => rfl
  | _ :: r => by simp [PyData.canLayAll0, PyData.canLay0, canAll_ints r]
theorem depthAll_ints : ∀ ns : List Int, PyData.depthAll (ns.map PyData.int) = 0
  | [] => rfl
  | _ :: r => by simp [PyData.depthAll, PyData.depth, depthAll_ints r]
theorem shaped_of_ints (ns : List Int) : SeqAt.shaped (.list (ns.map PyData.int)) = true := by
  simp [SeqAt.shaped, PyData.canLay0, PyData.depth, canAll_ints, depthAll_ints]
def spTake : Sp := fun vs H Q _ => ∃ (b l : Addr) (many : Int), vs = [.ref b, .int many] ∧ BoxAt H b l ∧ 0 < many ∧ many < 1073741824 ∧
  ∀ (r : Int) (H' : Hp), 0 ≤ r → r < many → BoxAt H' b l → KB b l H H' → Q (.int r) H'
section
variable {P : Program} {w : World} {K : PySem.W.Frag} {mg : Str → Option Value} {base : Heap}
theorem sc_take : FnScope ["_law_box", "_law_many", "_law_number"] ["_law_box", "_law_many"] (defScope s_take) := ⟨rfl, rfl, rfl, by decide +kernel, rfl, by decide +kernel, by decide +kernel⟩
theorem ok_take {f : Addr} {fd : FuncData} (F : Fun K "_law_take" "_law_take" s_take f fd) : FnOk P w K mg base CX0 1 f fd ["_law_box", "_law_many"] spTake := by
  refine F.ok sc_take (fun vs H Q E h => ?_) (fun cdv A outer s H vs Q E hr h => ?_)
  · obtain ⟨b, l, many, rfl, _⟩ := h
    rfl
  · obtain ⟨b, l, many, rfl, hB, m0, m1, k⟩ := h
    have nd := sc_take.nd
    have hu := hr.units
    refine ⟨_, pss_cons (ps_if (pt_cmpR (op_eqD hu) (pe_ix ix_list (pv 0) pe_int (fun _ _ => rfl)) (pe_lst pa_nil) (nomark _))
        (pss_cons (ps_asg (pe_op op_modN (pe_op op_mul (pe_ix ix_list (pv 0) pe_int (fun _ _ => rfl)) pe_int) pe_int) (pg_sub (pv 0) pe_int set_list))
          (pss_one (ps_ret (pe_op op_modN (pe_op op_fdivN (pe_ix ix_list (pv 0) pe_int (fun _ _ => rfl)) pe_int) (pv 1))))) pss_nil)
      (pss_cons (ps_set (i := 2) nd rfl (.inl rfl) (pe_ix ix_list (pe_ix ix_list (pv 0) pe_int (fun _ _ => rfl)) pe_int (fun _ _ => rfl)))
      (pss_cons (ps_asg (pe_op op_fdivN (pv 2) (pv 1)) (pg_sub (pe_ix ix_list (pv 0) pe_int (fun _ _ => rfl)) pe_int set_list))
      (pss_cons (ps_if (PW.pt (pw_or (pt_cmpR op_eq (pe_ix ix_list (pe_ix ix_list (pv 0) pe_int (fun _ _ => rfl)) pe_int (fun _ _ => rfl)) pe_int (nomark _)) (pw_or1 (pt_cmpR op_eq (pe_ix ix_list (pe_ix ix_list (pv 0) pe_int (fun _ _ => rfl)) pe_int (fun _ _ => rfl)) (pe_un un_neg pe_int) (nomark _)))))
          (pss_one (ps_expr (pe_bm PySem.F.plainAttrs_list PySem.F.slot_list_pop PySem.F.type_list_pop mt_popAt (pe_ix ix_list (pv 0) pe_int (fun _ _ => rfl)) (pa_cons pe_int pa_nil)))) pss_nil)
      (pss_one (ps_ret (pe_op op_modN (pv 2) (pv 1))))))), ?_⟩
    obtain ⟨ns, st, h1, h2, h3⟩ := id hB
    have nbl := box_ne hB
    have len2 : ∀ o, (upd H b o) l = some (.lst (ns.map V.int)) := fun o => by rw [upd_ne nbl.symm]; exact h2
    -- _law_box[0] == []
    refine ⟨_, rfl, b, _, 0, .ref l, rfl, rfl, SqL.of h1, rfl, small0, fun p np => ?_⟩
    have npb : b ≠ p := ne_of_none h1 np
    have npl : l ≠ p := ne_of_none h2 np
    have g1 : (upd H p (.lst [])) b = some (.lst [.ref l, .int st]) := by rw [upd_ne npb]; exact h1
    have g2 : (upd H p (.lst [])) l = some (.lst (ns.map V.int)) := by rw [upd_ne npl]; exact h2
    have kp : KB b l H (upd H p (.lst [])) := fun c o e _ _ => by rw [upd_ne (ne_of_none e np)]; exact e
    refine ⟨.list (ns.map PyData.int), .list [], .lst (SqL.of g2) (dp_ints ns), .lst (SqL.of upd_same) .nil, shaped_of_ints ns, rfl, _, rfl, ?_⟩
    cases ns with
    | nil =>
      refine iteT ?_
      refine ⟨_, rfl, b, _, 1, .int st, rfl, rfl, SqL.of g1, rfl, st, 48271, rfl, rfl, .inr (by decide), _, _, rfl, rfl, nz (by decide), _, rfl, b, _, 1, 1, rfl, rfl, g1, rfl, ?_⟩
      refine ⟨_, rfl, b, _, 1, _, rfl, rfl, SqL.of upd_same, rfl, _, _, rfl, rfl, ⟨by decide, by decide⟩, _, rfl, _, _, rfl, rfl, nz (by omega), ?_⟩
      refine k _ _ (Int.fmod_nonneg_of_pos _ m0) (Int.fmod_lt_of_pos _ m0) ⟨[], _, upd_same, by rw [upd_ne nbl.symm]; exact g2, h3⟩ fun c o e hc hl => ?_
      rw [upd_ne hc]
      exact kp c o e hc hl
    | cons n ns =>
      refine iteF ?_
      refine ⟨_, rfl, b, _, 0, .ref l, rfl, rfl, SqL.of g1, rfl, l, _, 0, .int n, rfl, rfl, SqL.of g2, at0, ?_⟩
      refine ⟨_, rfl, _, rfl, n, many, rfl, rfl, ⟨by omega, by omega⟩, _, rfl, b, _, 0, .ref l, rfl, rfl, SqL.of g1, rfl, l, _, 0, 0, rfl, rfl, g2, ix0, ?_⟩
      have j1 : ∀ o, (upd (upd H p (.lst [])) l o) b = some (.lst [.ref l, .int st]) := fun o => by rw [upd_ne nbl]; exact g1
      have kl : ∀ o, KB b l H (upd (upd H p (.lst [])) l o) := fun o c u e hc hl => by rw [upd_ne hl]; exact kp c u e hc hl
      have fin : ∀ ms : List Int, ms.length ≤ 63 → Q (.int (n.fmod many)) (upd (upd H p (.lst [])) l (.lst (ms.map V.int))) := fun ms hm =>
        k _ _ (Int.fmod_nonneg_of_pos _ m0) (Int.fmod_lt_of_pos _ m0) ⟨ms, st, j1 _, upd_same, hm⟩ (kl _)
      have e0 : (List.map V.int (n :: ns)).set 0 (V.int (n.fdiv many)) = List.map V.int (n.fdiv many :: ns) := rfl
      rw [e0]
      -- == 0 or == -1
      refine ⟨_, rfl, b, _, 0, .ref l, rfl, rfl, SqL.of (j1 _), rfl, l, _, 0, .int (n.fdiv many), rfl, rfl, SqL.of upd_same, at0, rfl, _, rfl, ?_⟩
      have done : ∀ H', (∃ ms : List Int, ms.length ≤ 63 ∧ H' = upd (upd H p (.lst [])) l (.lst (ms.map V.int))) → ∃ v, ([some (V.ref b), some (V.int many), some (V.int n)] : L2.St)[2]? = some (some v) ∧ ∃ v_1, ([some (V.ref b), some (V.int many), some (V.int n)] : L2.St)[1]? = some (some v_1) ∧ ∃ i j, v = V.int i ∧ v_1 = V.int j ∧ j ≠ 0 ∧ Q (V.int (i.fmod j)) H' := fun H' ⟨ms, hm, e⟩ => by
        subst e
        exact ⟨_, rfl, _, rfl, n, many, rfl, rfl, nz (by omega), fin ms hm⟩
      have pop : ∀ Z : VK, (∀ y H', H' = upd (upd H p (.lst [])) l (.lst (ns.map V.int)) → Z y H') → rPopAt (.ref l) [.int 0] (upd (upd H p (.lst [])) l (.lst (List.map V.int (n.fdiv many :: ns)))) Z := fun Z hZ =>
        ⟨l, _, 0, 0, _, rfl, rfl, upd_same, by decide, by decide, by simp [seqIndex?], rfl, hZ _ _ (by rw [upd_upd]; rfl)⟩
      have h3' : ns.length ≤ 63 := by simp at h3; omega
      by_cases hz : n.fdiv many = 0
      · rw [decide_eq_true (show V.int (n.fdiv many) = V.int 0 by rw [hz])]
        refine iteT (iteT ⟨_, rfl, b, _, 0, .ref l, rfl, rfl, SqL.of (j1 _), rfl, .inl ⟨rfl, _, SqL.of upd_same⟩, pop _ fun y H' e => done H' ⟨ns, h3', e⟩⟩)
      · rw [decide_eq_false (show ¬ V.int (n.fdiv many) = V.int 0 from fun z => hz (by injection z))]
        refine iteF ⟨_, rfl, b, _, 0, .ref l, rfl, rfl, SqL.of (j1 _), rfl, l, _, 0, .int (n.fdiv many), rfl, rfl, SqL.of upd_same, at0, 1, rfl, rfl, _, rfl, ?_⟩
        refine ite2 (fun _ => ⟨_, rfl, b, _, 0, .ref l, rfl, rfl, SqL.of (j1 _), rfl, .inl ⟨rfl, _, SqL.of upd_same⟩, pop _ fun y H' e => done H' ⟨ns, h3', e⟩⟩) fun _ => ?_
        exact done _ ⟨n.fdiv many :: ns, h3, rfl⟩
end
end TG
namespace TG
open PySem L2
section
variable {P : Program} {w : World} {K : PySem.W.Frag} {mg : Str → Option Value} {base : Heap}
def spBegun (K : PySem.W.Frag) : Sp := fun vs H Q _ => ∃ (a : Addr) (ns : List Int), vs = [.ref a] ∧ SqL K H a (ns.map V.int) ∧ ns.length ≤ 63 ∧
  ∀ (b l : Addr) (H' : Hp), BoxAt H' b l → Same H H' → H b = none → H l = none → Q (.ref b) H'
theorem sc_begun : FnScope ["_law_script", "_law_stirred", "_law_cell"] ["_law_script"] (defScope s_begun) := ⟨rfl, rfl, rfl, by decide +kernel, rfl, by decide +kernel, by decide +kernel⟩
theorem ok_begun {f : Addr} {fd : FuncData} (T : Txt mg) (F : Fun K "_law_begun" "_law_begun" s_begun f fd) : FnOk P w K mg base CX0 1 f fd ["_law_script"] (spBegun K) := by
  refine F.ok sc_begun (fun vs H Q E h => ?_) (fun cdv A outer s H vs Q E hr h => ?_)
  · obtain ⟨a, ns, rfl, _⟩ := h
    rfl
  · obtain ⟨a, ns, rfl, hS, hl, k⟩ := h
    have nd := sc_begun.nd
    refine ⟨_, pss_cons (ps_set (i := 1) nd rfl (.inl rfl) pe_int) (pss_cons (ps_for PassesOwn.never rfl (pi_list (pv 0)) (pg_name (i := 2) nd rfl (.inl rfl))
        (pss_one (ps_set (i := 1) nd rfl (.inl rfl) (pe_op op_modN (pe_op op_add (pe_op op_add (pe_op op_mul (pv 1) pe_int) (pe_op op_mul (pv 2) pe_int)) pe_int) pe_int))))
      (pss_one (ps_ret (pe_lst (pa_cons (pe_callTy call_list_of (by rfl) T.list (by decide +kernel) (pa_cons (pv 0) pa_nil))
        (pa_cons (pe_op op_mul (pv 1) (pe_callTy call_int1 (by rfl) T.int (by decide +kernel) (pa_cons (pe_cmpR op_gt (pe_callB call_len_seq (by rfl) T.len PySem.boot_len (pa_cons (pv 0) pa_nil)) pe_int (nomark _)) pa_nil))) pa_nil)))))), ?_⟩
    refine ⟨_, rfl, a, rfl, ⟨_, hS⟩, for_list (xs := ns.map V.int) (fun _ σ H1 => H1 = H ∧ ∃ st c, σ = [some (.ref a), some (.int st), c]) ⟨rfl, 0, _, rfl⟩ (fun i σ H1 _ p => by rw [p.1]; exact hS) ?_ ?_⟩
    · rintro i x σ H1 hx ⟨rfl, st, c, rfl⟩
      obtain ⟨n, rfl⟩ : ∃ n, x = V.int n := by
        rw [List.getElem?_map] at hx
        cases e : ns[i]? with
        | none => rw [e] at hx; cases hx
        | some n => rw [e] at hx; cases hx; exact ⟨n, rfl⟩
      exact ⟨_, rfl, st, 48271, rfl, rfl, .inr (by decide), _, rfl, n, 69621, rfl, rfl, .inr (by decide), _, _, rfl, rfl, _, 11, rfl, rfl, _, 2147483647, rfl, rfl, nz (by decide), rfl, _, _, rfl⟩
    · rintro σ H1 ⟨rfl, st, c, rfl⟩
      refine ⟨_, rfl, a, _, rfl, .inl hS, fun l nl => ?_⟩
      have hS2 : SqL K (upd H1 l (.lst (ns.map V.int))) a (ns.map V.int) := by
        rcases hS with (z | ⟨o, z⟩) | z
        · exact .inl (.inl (by rw [upd_ne (ne_of_none z nl)]; exact z))
        · exact .inl (.inr ⟨o, by rw [upd_ne (ne_of_none z nl)]; exact z⟩)
        · exact .inr z
      refine ⟨_, rfl, _, rfl, a, _, rfl, .inl hS2, _, 2, rfl, rfl, .inr ⟨_, rfl, st, _, rfl, rfl, .inr (by split <;> decide), (by show 2 ≤ sizeLine; decide), fun b nb => ?_⟩⟩
      have nb1 : H1 b = none := by
        by_cases e : b = l
        · rw [e, upd_same] at nb; cases nb
        · rw [upd_ne e] at nb; exact nb
      have nlb : l ≠ b := fun z => by rw [← z, upd_same] at nb; cases nb
      refine k b l _ ⟨ns, _, upd_same, by rw [upd_ne nlb, upd_same], hl⟩ (fun c o e => ?_) nb1 nl
      rw [upd_ne (ne_of_none e nb1), upd_ne (ne_of_none e nl)]
      exact e
mutual
def dok : PyData → Bool
  | .list xs | .tuple xs => decide (xs.length ≤ 1000) && dokAll xs
  | .dict _ => false
  | .none | .bool _ | .int _ | .str _ => true
def dokAll : List PyData → Bool
  | [] => true
  | x :: xs => dok x && dokAll xs
end
theorem dokAll_get : ∀ {ds : List PyData} {i : Nat} {d : PyData}, dokAll ds = true → ds[i]? = some d → dok d = true
  | [], _, _, _, h => by simp at h
  | x :: xs, 0, d, h, e => by
    simp only [dokAll, Bool.and_eq_true] at h
    cases e
    exact h.1
  | x :: xs, i + 1, d, h, e => by
    simp only [dokAll, Bool.and_eq_true] at h
    exact dokAll_get h.2 (by simpa using e)
theorem depthAll_get : ∀ {ds : List PyData} {i : Nat} {d : PyData}, ds[i]? = some d → d.depth ≤ PyData.depthAll ds
  | [], _, _, h => by simp at h
  | x :: xs, 0, d, e => by
    cases e
    simp only [PyData.depthAll]
    exact Nat.le_max_left _ _
  | x :: xs, i + 1, d, e => by
    simp only [PyData.depthAll]
    exact Nat.le_trans (depthAll_get (i := i) (by simpa using e)) (Nat.le_max_right _ _)
theorem dp_len {H : Hp} : ∀ {vs : List V} {ds : List PyData}, DpAll K H vs ds → vs.length = ds.length
  | [], [], _ => rfl
  | _ :: _, _ :: _, h => by
    cases h with
    | cons _ t => rw [List.length_cons, List.length_cons, dp_len t]
theorem dp_get {H : Hp} : ∀ {vs : List V} {ds : List PyData} {i : Nat} {v : V}, DpAll K H vs ds → vs[i]? = some v → ∃ d, ds[i]? = some d ∧ Dp K H v d
  | [], [], _, _, _, h => by simp at h
  | x :: vs, y :: ds, 0, v, h, e => by
    cases h with
    | cons h1 _ =>
      cases e
      exact ⟨y, rfl, h1⟩
  | x :: vs, y :: ds, i + 1, v, h, e => by
    cases h with
    | cons _ h2 => simpa using dp_get (i := i) h2 (by simpa using e)
theorem ty_list {H : Hp} {a : Addr} {xs : List V} (h : SqL K H a xs) : TyX K H (.ref a) (.type "list") := by
  rcases h with (z | ⟨o, z⟩) | ⟨o, its, n, z, c, _⟩
  · exact .base (.lst z)
  · exact .base (.frz z)
  · exact .kList z c
theorem ty_tup {H : Hp} {a : Addr} {xs : List V} (h : SqT K H a xs) : TyX K H (.ref a) (.type "tuple") := by
  rcases h with (z | ⟨o, z⟩) | ⟨o, its, n, z, c, _⟩
  · exact .base (.tup z)
  · exact .fTuple z
  · exact .kTuple z c
def spAlike (K : PySem.W.Frag) (n : Nat) : Sp := fun vs H Q _ => ∃ (x y : V) (d : PyData), vs = [x, y] ∧ Dp K H x d ∧ Dp K H y d ∧ d.depth < n ∧ dok d = true ∧ Q (.bl true) H
theorem sc_alike : FnScope ["_law_found", "_law_due", "_law_k"] ["_law_found", "_law_due"] (defScope s_alike) := ⟨rfl, rfl, rfl, by decide +kernel, rfl, by decide +kernel, by decide +kernel⟩
theorem ok_alike {f : Addr} {fd : FuncData} (T : Txt mg) (F : Fun K "_law_alike" "_law_alike" s_alike f fd) (b : Binds K fd ["_law_found", "_law_due"] []) (mgf : mg "_law_alike" = some (.ref f)) : ∀ n, FnOk P w K mg base CX0 (n + 1) f fd ["_law_found", "_law_due"] (spAlike K n) := by
  intro n
  induction n with
  | zero =>
    refine F.ok sc_alike (fun vs H Q E h => ?_) (fun cdv A outer s H vs Q E hr h => ?_)
    · obtain ⟨x, y, d, rfl, _⟩ := h
      rfl
    · obtain ⟨x, y, d, rfl, _, _, h, _⟩ := h
      exact absurd h (Nat.not_lt_zero _)
  | succ n G =>
    refine F.ok sc_alike (fun vs H Q E h => ?_) (fun cdv A outer s H vs Q E hr h => ?_)
    · obtain ⟨x, y, d, rfl, _⟩ := h
      rfl
    · obtain ⟨x, y, d, rfl, hx, hy, hd, hk, k⟩ := h
      have nd := sc_alike.nd
      refine ⟨_, pss_cons (ps_if (pt_cmpR op_isN (pv 1) pe_non (nomark _)) (pss_one (ps_ret (pe_cmpR op_isN (pv 0) pe_non (nomark _)))) pss_nil)
        (pss_cons (ps_if (pt_val (pe_callB call_isi (by rfl) T.isin (by decide +kernel) (pa_cons (pv 1) (pa_cons (pe_bltn (v := .ty "bool") (by rfl) T.bool (by decide +kernel) rfl) pa_nil)))) (pss_one (ps_ret (pe_and (pe_callB call_isi (by rfl) T.isin (by decide +kernel) (pa_cons (pv 0) (pa_cons (pe_bltn (v := .ty "bool") (by rfl) T.bool (by decide +kernel) rfl) pa_nil))) (pe_one (pe_cmpR op_eq (pv 0) (pv 1) (nomark _)))))) pss_nil)
        (pss_cons (ps_if (pt_val (pe_callB call_isi (by rfl) T.isin (by decide +kernel) (pa_cons (pv 1) (pa_cons (pe_bltn (v := .ty "int") (by rfl) T.int (by decide +kernel) rfl) pa_nil)))) (pss_one (ps_ret (pe_and (pe_callB call_isi (by rfl) T.isin (by decide +kernel) (pa_cons (pv 0) (pa_cons (pe_bltn (v := .ty "int") (by rfl) T.int (by decide +kernel) rfl) pa_nil))) (pe_and (pe_not (pe_callB call_isi (by rfl) T.isin (by decide +kernel) (pa_cons (pv 0) (pa_cons (pe_bltn (v := .ty "bool") (by rfl) T.bool (by decide +kernel) rfl) pa_nil)))) (pe_one (pe_cmpR op_eq (pv 0) (pv 1) (nomark _))))))) pss_nil)
        (pss_cons (ps_if (pt_val (pe_callB call_isi (by rfl) T.isin (by decide +kernel) (pa_cons (pv 1) (pa_cons (pe_bltn (v := .ty "str") (by rfl) T.str (by decide +kernel) rfl) pa_nil)))) (pss_one (ps_ret (pe_and (pe_callB call_isi (by rfl) T.isin (by decide +kernel) (pa_cons (pv 0) (pa_cons (pe_bltn (v := .ty "str") (by rfl) T.str (by decide +kernel) rfl) pa_nil))) (pe_one (pe_cmpR op_eq (pv 0) (pv 1) (nomark _)))))) pss_nil)
        (pss_cons (ps_if (PW.pt (pw_or (pt_cmpR op_ne (pe_callB call_isi (by rfl) T.isin (by decide +kernel) (pa_cons (pv 1) (pa_cons (pe_bltn (v := .ty "tuple") (by rfl) T.tuple (by decide +kernel) rfl) pa_nil))) (pe_callB call_isi (by rfl) T.isin (by decide +kernel) (pa_cons (pv 0) (pa_cons (pe_bltn (v := .ty "tuple") (by rfl) T.tuple (by decide +kernel) rfl) pa_nil))) (nomark _))
            (pw_or1 (pt_cmpR op_ne (pe_callB call_isi (by rfl) T.isin (by decide +kernel) (pa_cons (pv 1) (pa_cons (pe_bltn (v := .ty "list") (by rfl) T.list (by decide +kernel) rfl) pa_nil))) (pe_callB call_isi (by rfl) T.isin (by decide +kernel) (pa_cons (pv 0) (pa_cons (pe_bltn (v := .ty "list") (by rfl) T.list (by decide +kernel) rfl) pa_nil))) (nomark _))))) (pss_one (ps_ret pe_bl)) pss_nil)
        (pss_cons (ps_if (pt_cmpR op_ne (pe_callB call_len_seq (by rfl) T.len PySem.boot_len (pa_cons (pv 0) pa_nil)) (pe_callB call_len_seq (by rfl) T.len PySem.boot_len (pa_cons (pv 1) pa_nil)) (nomark _)) (pss_one (ps_ret pe_bl)) pss_nil)
        (pss_cons (ps_for PassesOwn.never rfl (pi_range1 (by rfl) T.range (pa_cons (pe_callB call_len_seq (by rfl) T.len PySem.boot_len (pa_cons (pv 1) pa_nil)) pa_nil)) (pg_name (i := 2) nd rfl (.inl rfl))
          (pss_one (ps_if (pt_not (pt_val (pe_call G hr (by rfl) mgf F.kp b .nil pass0 (pa_cons (pe_ix ix_seq (pv 0) (pv 2) (fun _ _ => rfl)) (pa_cons (pe_ix ix_seq (pv 1) (pv 2) (fun _ _ => rfl)) pa_nil))))) (pss_one (ps_ret pe_bl)) pss_nil)))
        (pss_one (ps_ret pe_bl)))))))), ?_⟩
      cases hx with
      | non =>
        cases hy
        exact ⟨_, rfl, rfl, true, rfl, iteT ⟨_, rfl, rfl, k⟩⟩
      | bl c =>
        cases hy
        exact ⟨_, rfl, rfl, false, rfl, iteF ⟨_, rfl, _, _, _, _, true, rfl, .ty _, (.base (.bl c)), kit_ty (by decide +kernel), true, rfl, iteT ⟨_, rfl, _, _, _, _, true, rfl, .ty _, (.base (.bl c)), kit_ty (by decide +kernel), true, rfl, iteT ⟨_, rfl, _, rfl, rfl, by simpa using k⟩⟩⟩⟩
      | int i =>
        cases hy
        exact ⟨_, rfl, rfl, false, rfl, iteF ⟨_, rfl, _, _, _, _, false, rfl, .ty _, (.base (.int i)), kit_ty (by decide +kernel), false, rfl, iteF ⟨_, rfl, _, _, _, _, true, rfl, .ty _, (.base (.int i)), kit_ty (by decide +kernel), true, rfl, iteT ⟨_, rfl, _, _, _, _, true, rfl, .ty _, (.base (.int i)), kit_ty (by decide +kernel), true, rfl, iteT
          ⟨_, rfl, _, _, _, _, false, rfl, .ty _, (.base (.int i)), kit_ty (by decide +kernel), false, rfl, true, rfl, iteT ⟨_, rfl, _, rfl, rfl, by simpa using k⟩⟩⟩⟩⟩⟩
      | str z =>
        cases hy
        exact ⟨_, rfl, rfl, false, rfl, iteF ⟨_, rfl, _, _, _, _, false, rfl, .ty _, (.base (.str z)), kit_ty (by decide +kernel), false, rfl, iteF ⟨_, rfl, _, _, _, _, false, rfl, .ty _, (.base (.str z)), kit_ty (by decide +kernel), false, rfl, iteF ⟨_, rfl, _, _, _, _, true, rfl, .ty _, (.base (.str z)), kit_ty (by decide +kernel), true, rfl, iteT
          ⟨_, rfl, _, _, _, _, true, rfl, .ty _, (.base (.str z)), kit_ty (by decide +kernel), true, rfl, iteT ⟨_, rfl, _, rfl, rfl, by simpa using k⟩⟩⟩⟩⟩⟩
      | @lst p xs ds sx ax =>
        cases hy with
        | @lst q ys _ sy ay =>
          refine ⟨_, rfl, rfl, false, rfl, iteF ⟨_, rfl, _, _, _, _, false, rfl, .ty _, (ty_list sy), kit_ty (by decide +kernel), false, rfl, iteF ⟨_, rfl, _, _, _, _, false, rfl, .ty _, (ty_list sy), kit_ty (by decide +kernel), false, rfl, iteF ⟨_, rfl, _, _, _, _, false, rfl, .ty _, (ty_list sy), kit_ty (by decide +kernel), false, rfl, iteF
            ⟨_, rfl, _, _, _, _, false, rfl, .ty _, (ty_list sy), kit_ty (by decide +kernel), _, rfl, _, _, _, _, false, rfl, .ty _, (ty_list sx), kit_ty (by decide +kernel), rfl, false, rfl, iteF ⟨_, rfl, _, _, _, _, true, rfl, .ty _, (ty_list sy), kit_ty (by decide +kernel), _, rfl, _, _, _, _, true, rfl, .ty _, (ty_list sx), kit_ty (by decide +kernel), rfl, false, rfl, iteF ?_⟩⟩⟩⟩⟩⟩
          simp only [dok, Bool.and_eq_true, decide_eq_true_eq] at hk
          simp only [PyData.depth] at hd
          have lx := dp_len ax
          have ly := dp_len ay
          refine ⟨_, rfl, p, xs, rfl, .inl sx, _, rfl, q, ys, rfl, .inl sy, rfl, false, by rw [lx, ly]; simp, iteF ?_⟩
          refine ⟨_, rfl, q, ys, rfl, .inl sy, _, rfl, by omega, by omega, for_range (n := (ys.length : Int).toNat) (fun _ σ H' => H' = H ∧ ∃ c, σ = [some (.ref p), some (.ref q), c]) ⟨rfl, _, rfl⟩ ?_ ?_⟩
          · rintro i σ H' hi ⟨rfl, c, rfl⟩
            have hi1 : i < xs.length := by omega
            have hi2 : i < ys.length := by omega
            obtain ⟨d1, e1, dx⟩ := dp_get ax (List.getElem?_eq_getElem hi1)
            obtain ⟨d2, e2, dy⟩ := dp_get ay (List.getElem?_eq_getElem hi2)
            rw [e1] at e2
            cases e2
            refine ⟨_, rfl, _, rfl, .inl ⟨p, xs, _, _, rfl, rfl, sx, by rw [Int.zero_add]; exact atI_nat (List.getElem?_eq_getElem hi1), ⟨_, rfl, _, rfl, .inl ⟨q, ys, _, _, rfl, rfl, sy, by rw [Int.zero_add]; exact atI_nat (List.getElem?_eq_getElem hi2), ?_⟩⟩⟩⟩
            exact ⟨_, _, d1, rfl, dx, dy, by have := depthAll_get e1; omega, dokAll_get hk.2 e1, true, rfl, iteF ⟨rfl, _, rfl⟩⟩
          · rintro σ H' ⟨rfl, c, rfl⟩
            exact k
      | @tup p xs ds sx ax =>
        cases hy with
        | @tup q ys _ sy ay =>
          refine ⟨_, rfl, rfl, false, rfl, iteF ⟨_, rfl, _, _, _, _, false, rfl, .ty _, (ty_tup sy), kit_ty (by decide +kernel), false, rfl, iteF ⟨_, rfl, _, _, _, _, false, rfl, .ty _, (ty_tup sy), kit_ty (by decide +kernel), false, rfl, iteF ⟨_, rfl, _, _, _, _, false, rfl, .ty _, (ty_tup sy), kit_ty (by decide +kernel), false, rfl, iteF
            ⟨_, rfl, _, _, _, _, true, rfl, .ty _, (ty_tup sy), kit_ty (by decide +kernel), _, rfl, _, _, _, _, true, rfl, .ty _, (ty_tup sx), kit_ty (by decide +kernel), rfl, false, rfl, iteF ⟨_, rfl, _, _, _, _, false, rfl, .ty _, (ty_tup sy), kit_ty (by decide +kernel), _, rfl, _, _, _, _, false, rfl, .ty _, (ty_tup sx), kit_ty (by decide +kernel), rfl, false, rfl, iteF ?_⟩⟩⟩⟩⟩⟩
          simp only [dok, Bool.and_eq_true, decide_eq_true_eq] at hk
          simp only [PyData.depth] at hd
          have lx := dp_len ax
          have ly := dp_len ay
          refine ⟨_, rfl, p, xs, rfl, .inr sx, _, rfl, q, ys, rfl, .inr sy, rfl, false, by rw [lx, ly]; simp, iteF ?_⟩
          refine ⟨_, rfl, q, ys, rfl, .inr sy, _, rfl, by omega, by omega, for_range (n := (ys.length : Int).toNat) (fun _ σ H' => H' = H ∧ ∃ c, σ = [some (.ref p), some (.ref q), c]) ⟨rfl, _, rfl⟩ ?_ ?_⟩
          · rintro i σ H' hi ⟨rfl, c, rfl⟩
            have hi1 : i < xs.length := by omega
            have hi2 : i < ys.length := by omega
            obtain ⟨d1, e1, dx⟩ := dp_get ax (List.getElem?_eq_getElem hi1)
            obtain ⟨d2, e2, dy⟩ := dp_get ay (List.getElem?_eq_getElem hi2)
            rw [e1] at e2
            cases e2
            refine ⟨_, rfl, _, rfl, .inr (.inl ⟨p, xs, _, _, rfl, rfl, sx, by rw [Int.zero_add]; exact atI_nat (List.getElem?_eq_getElem hi1), ⟨_, rfl, _, rfl, .inr (.inl ⟨q, ys, _, _, rfl, rfl, sy, by rw [Int.zero_add]; exact atI_nat (List.getElem?_eq_getElem hi2), ?_⟩)⟩⟩)⟩
            exact ⟨_, _, d1, rfl, dx, dy, by have := depthAll_get e1; omega, dokAll_get hk.2 e1, true, rfl, iteF ⟨rfl, _, rfl⟩⟩
          · rintro σ H' ⟨rfl, c, rfl⟩
            exact k
end
end TG
namespace Gx
open PySem PySem.Spec PyProof.Rows L2 GenW
section
variable {J : It} {n : Nat} {G : Hp → Prop} {Y : Nat → Hp → V → Hp → Prop}
/-- all over a walk whose i-th element is f i -/
theorem all_by (w : Walk J n G Y) {te : TE} {Q : VK} {H2 : Hp} (f : Nat → Bool) (Pv : Nat → Hp → Prop) (h0 : Pv 0 H2) (hG : ∀ i H, i ≤ n → Pv i H → G H)
    (hs : ∀ i v H H', i < n → Pv i H → Y i H v H' → ∀ Z : VK, (∀ H3, Pv (i + 1) H3 → Z (.bl (f i)) H3) → te [some v] H' Z)
    (hT : ∀ H, Pv n H → (∀ i, i < n → f i = true) → Q (.bl true) H) (hF : ∀ i H, i < n → f i = false → Pv (i + 1) H → Q (.bl false) H) :
    ∃ W : WT, (∃ m, W m [] H2) ∧ ∀ m ys H, W m ys H → (J.stop ys.length H ∧ (fun (_ : List V) H => Q (.bl true) H) ys H) ∨
      (J.go ys.length H ∧ ∀ v H', J.yld ys.length H v H' → te [some v] H' (NyAll (fun b H => Q (.bl b) H) W m ys)) := by
  refine ⟨fun m ys H => m = n - ys.length ∧ ys.length ≤ n ∧ Pv ys.length H ∧ ∀ i, i < ys.length → f i = true, ⟨n, by simp, Nat.zero_le _, h0, fun i hi => absurd hi (Nat.not_lt_zero _)⟩, ?_⟩
  rintro m ys H ⟨rfl, hl, hp, ht⟩
  have q := hG _ H hl hp
  by_cases hlt : ys.length < n
  · refine .inr ⟨w.goes _ H hlt q, fun v H' y => hs _ v H H' hlt hp (w.yields _ H v H' hlt q y) _ fun H3 p3 => ⟨f ys.length, rfl, ?_⟩⟩
    cases hf : f ys.length with
    | true =>
      refine iteT ⟨n - (ys.length + 1), by omega, by rw [List.length_append, List.length_singleton], by rw [List.length_append, List.length_singleton]; exact hlt, by rw [List.length_append, List.length_singleton]; exact p3, fun i hi => ?_⟩
      rw [List.length_append, List.length_singleton] at hi
      by_cases e : i = ys.length
      · rw [e]; exact hf
      · exact ht i (by omega)
    | false => exact iteF (hF _ H3 hlt hf p3)
  · have e : ys.length = n := by omega
    exact .inl ⟨by rw [e]; exact w.stops H q, hT H (e ▸ hp) fun i hi => ht i (by omega)⟩
end
def Tabs (cs : List (Addr × Addr)) (H : Hp) : Prop := ∀ p ∈ cs, GxR.TabG H p.2
theorem tab_ext {P : Addr} {H H' : Hp} (t : GxR.TabG H P) (x : GxR.Tabbed P H H') : LamX.ExtN H H' := fun b o e n => by
  by_cases hb : b = P
  · obtain ⟨ps, h1, _⟩ := t
    rw [hb, h1] at e
    cases e
    exact absurd rfl (n ps)
  · rw [x.2 b hb]; exact e
theorem tabs_tab {cs : List (Addr × Addr)} {P : Addr} {H H' : Hp} (t : Tabs cs H) (x : GxR.Tabbed P H H') : Tabs cs H' := fun p hp => by
  by_cases hb : p.2 = P
  · rw [hb]; exact x.1
  · obtain ⟨ps, h1, h2⟩ := t p hp
    exact ⟨ps, by rw [x.2 _ hb]; exact h1, h2⟩
/-- all but tables stays, the tables are tables -/
structure Ex (cs : List (Addr × Addr)) (H H' : Hp) : Prop where
  ext : LamX.ExtN H H'
  tab : Tabs cs H'
  old : ∀ b, H' b = none → H b = none
  oth : ∀ b o, H b = some o → (∀ p ∈ cs, p.2 ≠ b) → H' b = some o
theorem Ex.refl {cs : List (Addr × Addr)} {H : Hp} (t : Tabs cs H) : Ex cs H H := ⟨LamX.ExtN.refl H, t, fun _ h => h, fun _ _ e _ => e⟩
theorem Ex.trans {cs : List (Addr × Addr)} {H H1 H2 : Hp} (a : Ex cs H H1) (b : Ex cs H1 H2) : Ex cs H H2 := ⟨a.ext.trans b.ext, b.tab, fun c h => a.old c (b.old c h), fun c o e m => b.oth c o (a.oth c o e m) m⟩
theorem Ex.tabbed {cs : List (Addr × Addr)} {q : Addr × Addr} {H H' : Hp} (t : Tabs cs H) (m : q ∈ cs) (x : GxR.Tabbed q.2 H H') : Ex cs H H' := ⟨tab_ext (t q m) x, tabs_tab t x, fun b h => by
  by_cases hb : b = q.2
  · obtain ⟨ps, h1, _⟩ := x.1
    rw [hb, h1] at h
    cases h
  · rw [x.2 b hb] at h; exact h, fun b o e n => by
  rw [x.2 b (fun z => n q m z.symm)]
  exact e⟩
theorem upd_none {H : Hp} {a b : Addr} {o : HO} (h : upd H a o b = none) : H b = none ∧ b ≠ a := by
  by_cases hb : b = a
  · rw [hb, upd_same] at h; cases h
  · rw [upd_ne hb] at h; exact ⟨h, hb⟩
theorem Ex.laid {cs : List (Addr × Addr)} {H : Hp} {a : Addr} {o : HO} (t : Tabs cs H) (n : H a = none) : Ex cs H (upd H a o) :=
  ⟨fun b u e _ => by rw [upd_ne (ne_of_none e n)]; exact e, fun p hp => by
    obtain ⟨ps, h1, h2⟩ := t p hp
    exact ⟨ps, by rw [upd_ne (ne_of_none h1 n)]; exact h1, h2⟩, fun b h => (upd_none h).1, fun b u e _ => by
    rw [upd_ne (ne_of_none e n)]
    exact e⟩
/-- a new object, written again -/
theorem ex_new {cs : List (Addr × Addr)} {H H' : Hp} {D : Addr} {o : HO} (t : Tabs cs H) (e : Ex cs H H') (n : H D = none) : Ex cs H (upd H' D o) :=
  ⟨fun b u h m => by rw [upd_ne (ne_of_none h n)]; exact e.ext b u h m, fun p hp => by
    obtain ⟨ps, h1, _⟩ := t p hp
    obtain ⟨ps', h3, h4⟩ := e.tab p hp
    exact ⟨ps', by rw [upd_ne (ne_of_none h1 n)]; exact h3, h4⟩, fun b h => e.old b (upd_none h).1, fun b u h m => by
    rw [upd_ne (ne_of_none h n)]
    exact e.oth b u h m⟩
theorem Ex.lst {cs : List (Addr × Addr)} {H H' : Hp} {a : Addr} {xs : List V} (e : Ex cs H H') (h : H a = some (.lst xs)) : H' a = some (.lst xs) := e.ext _ _ h fun ps q => by cases q
theorem Ex.tup {cs : List (Addr × Addr)} {H H' : Hp} {a : Addr} {xs : List V} (e : Ex cs H H') (h : H a = some (.tup xs)) : H' a = some (.tup xs) := e.ext _ _ h fun ps q => by cases q
theorem Ex.sqL {cs : List (Addr × Addr)} {K : PySem.W.Frag} {H H' : Hp} {a : Addr} {xs : List V} (e : Ex cs H H') (h : SqL K H a xs) : SqL K H' a xs := by
  rcases h with (z | ⟨o, z⟩) | z
  · exact .inl (.inl (e.ext _ _ z fun ps q => by cases q))
  · exact .inl (.inr ⟨o, e.ext _ _ z fun ps q => by cases q⟩)
  · exact .inr z
theorem Ex.sqT {cs : List (Addr × Addr)} {K : PySem.W.Frag} {H H' : Hp} {a : Addr} {xs : List V} (e : Ex cs H H') (h : SqT K H a xs) : SqT K H' a xs := by
  rcases h with (z | ⟨o, z⟩) | z
  · exact .inl (.inl (e.ext _ _ z fun ps q => by cases q))
  · exact .inl (.inr ⟨o, e.ext _ _ z fun ps q => by cases q⟩)
  · exact .inr z
/-- a def whose code object is known -/
theorem fun_okT {P : Program} {w : World} {K : PySem.W.Frag} {mg : Str → Option Value} {base : Heap} {x qual : Str} {st : Stmt} {f c : Addr} {fd : FuncData} {N ps : List Str} {k : Nat} {sp : Sp} (F : Fun K x qual st f fd) (hc : fd.code = .ref c) (S : FnScope N ps (defScope st)) (len : ∀ vs H Q E, sp vs H Q E → vs.length = ps.length)
    (hbody : ∀ (A : Around) (outer : List Env) (s : Shared) (H : Hp) (vs : List V) (Q : VK) (E : XK), Room k (A.deeper (envOfC qual (defScope st) s.heap.objs.size f (.ref c))) → sp vs H Q E →
      ∃ t, PSs (cxOf CX0 P w K mg base N qual (defScope st) f (.ref c) A outer s H E).nox (defBody st) t ∧ t { nx := fun _ H' => Q .non H', rt := Q } (start N vs) H) : FnOk P w K mg base CX0 (k + 1) f fd ps sp := by
  obtain ⟨oc, od, kV, doc, pm, an, cdv, ct, osl, rfl, lk, hcd⟩ := F.ex
  have e : cdv = .ref c := hc
  subst e
  refine fn_of lk hcd S len fun A outer s H vs Q E hr hsp => ?_
  obtain ⟨t, h, q⟩ := hbody A outer s H vs Q E hr hsp
  exact ⟨t, h.nox, q⟩
end Gx
namespace TG
open PySem L2 Gx
def SgOk (c : Nat) : Prop := 32 ≤ c ∧ c ≤ 126 ∧ c ≠ 37
structure CellOk (z : Str) : Prop where
  len : z.length ≤ 10
  sg : ∀ c ∈ z.cps.toList, SgOk c
structure RowOk (r : List Str) : Prop where
  pos : 1 ≤ r.length
  len : r.length ≤ 6
  cells : ∀ z ∈ r, CellOk z
abbrev sV (r : List Str) : List V := r.map V.str
theorem line10 {n : Nat} (h : n ≤ 1000) : n ≤ sizeLine := Nat.le_trans h (by decide)
theorem dT {c : Prop} [Decidable c] (h : c) : V.bl (decide c) = V.bl true := by rw [decide_eq_true h]
theorem dF {c : Prop} [Decidable c] (h : ¬ c) : V.bl (decide c) = V.bl false := by rw [decide_eq_false h]
theorem qT {c : Prop} [Decidable c] {Q : VK} {H : Hp} (h : c) (k : Q (.bl true) H) : Q (.bl (decide c)) H := by rw [decide_eq_true h]; exact k
theorem qN {c : Prop} [Decidable c] {Q : VK} {H : Hp} (h : ¬ c) (k : Q (.bl true) H) : Q (.bl (!decide c)) H := by rw [decide_eq_false h]; exact k
structure Consts (mg : Str → Option Value) : Prop where
  blank : ∃ t, mg "BLANK" = some (.int 32 t)
  tilde : ∃ t, mg "TILDE" = some (.int 126 t)
  percent : ∃ t, mg "PERCENT" = some (.int 37 t)
section
variable {P : Program} {w : World} {K : PySem.W.Frag} {mg : Str → Option Value} {base : Heap}
def spWhole : Sp := fun vs H Q _ => ∃ (i lo hi : Int), vs = [.int i, .int lo, .int hi] ∧ lo ≤ i ∧ i ≤ hi ∧ Q (.bl true) H
theorem sc_whole : FnScope ["value", "low", "high"] ["value", "low", "high"] (defScope s_is_whole) := ⟨rfl, rfl, rfl, by decide +kernel, rfl, by decide +kernel, by decide +kernel⟩
theorem ok_whole {f : Addr} {fd : FuncData} (T : Txt mg) (F : Fun K "is_whole" "is_whole" s_is_whole f fd) : FnOk P w K mg base CX0 1 f fd ["value", "low", "high"] spWhole := by
  refine F.ok sc_whole (fun vs H Q E h => ?_) (fun cdv A outer s H vs Q E hr h => ?_)
  · obtain ⟨i, lo, hi, rfl, _⟩ := h
    rfl
  · obtain ⟨i, lo, hi, rfl, h1, h2, k⟩ := h
    refine ⟨_, pss_one (ps_ret (pe_and (pe_callB call_isi (by rfl) T.isin (by decide +kernel) (pa_cons (pv 0) (pa_cons (pe_bltn (v := .ty "int") (by rfl) T.int (by decide +kernel) rfl) pa_nil)))
      (pe_and (pe_not (pe_callB call_isi (by rfl) T.isin (by decide +kernel) (pa_cons (pv 0) (pa_cons (pe_bltn (v := .ty "bool") (by rfl) T.bool (by decide +kernel) rfl) pa_nil)))) (pe_one (pe_chain op_le op_le (pv 1) (pv 0) (pv 2)))))), ?_⟩
    exact ⟨_, rfl, _, _, _, _, true, rfl, .ty _, .base (.int i), kit_ty (by decide +kernel), true, rfl, iteT ⟨_, rfl, _, _, _, _, false, rfl, .ty _, .base (.int i), kit_ty (by decide +kernel), false, rfl, true, rfl, iteT
      ⟨_, rfl, _, rfl, lo, i, rfl, rfl, true, dT h1, iteT ⟨_, rfl, i, hi, rfl, rfl, qT h2 k⟩⟩⟩⟩
def spSg : Sp := fun vs H Q _ => ∃ c : Nat, vs = [.str ⟨#[c]⟩] ∧ SgOk c ∧ Q (.bl true) H
theorem sc_sg : FnScope ["sign"] ["sign"] (defScope s_is_sign) := ⟨rfl, rfl, rfl, by decide +kernel, rfl, by decide +kernel, by decide +kernel⟩
theorem ok_sg {f : Addr} {fd : FuncData} (T : Txt mg) (N : Consts mg) (F : Fun K "is_sign" "is_sign" s_is_sign f fd) : FnOk P w K mg base CX0 1 f fd ["sign"] spSg := by
  refine F.ok sc_sg (fun vs H Q E h => ?_) (fun cdv A outer s H vs Q E hr h => ?_)
  · obtain ⟨c, rfl, _⟩ := h
    rfl
  · obtain ⟨c, rfl, ⟨h1, h2, h3⟩, k⟩ := h
    obtain ⟨t1, e1⟩ := N.blank
    obtain ⟨t2, e2⟩ := N.tilde
    obtain ⟨t3, e3⟩ := N.percent
    refine ⟨_, pss_one (ps_ret (pe_and (pe_chain op_le op_le (pe_glob (v := .int 32) rfl e1 ⟨_, rfl⟩) (pe_callB call_ord (by rfl) T.ord (by decide +kernel) (pa_cons (pv 0) pa_nil)) (pe_glob (v := .int 126) rfl e2 ⟨_, rfl⟩))
      (pe_one (pe_cmpR op_ne (pe_callB call_ord (by rfl) T.ord (by decide +kernel) (pa_cons (pv 0) pa_nil)) (pe_glob (v := .int 37) rfl e3 ⟨_, rfl⟩) (nomark _))))), ?_⟩
    refine ⟨_, rfl, _, rfl, rfl, 32, (c : Int), rfl, rfl, true, dT (show (32 : Int) ≤ c by omega), iteT ⟨(c : Int), 126, rfl, rfl, ?_⟩⟩
    have e4 : V.bl (decide ((c : Int) ≤ 126)) = V.bl true := dT (by omega)
    refine ⟨true, e4, iteT ⟨_, rfl, _, rfl, rfl, rfl, qN (fun z => ?_) k⟩⟩
    injection z with z
    exact h3 (Int.ofNat.inj z)
def spText (cs : List (Addr × Addr)) : Sp := fun vs H Q _ => ∃ (z : Str) (m : Int), vs = [.str z, .int m] ∧ Tabs cs H ∧ (z.length : Int) ≤ m ∧ z.length ≤ 1000 ∧ (∀ c ∈ z.cps.toList, SgOk c) ∧ ∀ H', Ex cs H H' → Q (.bl true) H'
theorem sc_text : FnScope ["value", "most"] ["value", "most"] (defScope s_is_text) := ⟨rfl, rfl, rfl, by decide +kernel, rfl, by decide +kernel, by decide +kernel⟩
theorem ok_text {f c Pt g : Addr} {fd fdg : FuncData} {cs : List (Addr × Addr)} (T : Txt mg) (F : Fun K "is_text_of_signs" "is_text_of_signs" s_is_text f fd) (hc : fd.code = .ref c) (TB : GxR.TabB base mg c Pt) (hm : (c, Pt) ∈ cs)
    (G : FnOk P w K mg base CX0 1 g fdg ["sign"] spSg) (kp : PySem.W.keepIn K (.ref g) = true) (bd : Binds K fdg ["sign"] []) (mgg : mg "is_sign" = some (.ref g)) : FnOk P w K mg base CX0 5 f fd ["value", "most"] (spText cs) := by
  refine fun_okT F hc sc_text (fun vs H Q E h => ?_) (fun A outer s H vs Q E hr h => ?_)
  · obtain ⟨z, m, rfl, _⟩ := h
    rfl
  · obtain ⟨z, m, rfl, hT, h1, h2, h3, k⟩ := h
    refine ⟨_, pss_one (ps_ret (pe_and (pe_callB call_isi (by rfl) T.isin (by decide +kernel) (pa_cons (pv 0) (pa_cons (pe_bltn (v := .ty "str") (by rfl) T.str (by decide +kernel) rfl) pa_nil)))
      (pe_and (pe_cmpR op_le (pe_callB call_len_str (by rfl) T.len PySem.boot_len (pa_cons (pv 0) pa_nil)) (pv 1) (nomark _))
        (pe_one (pe_allG (k := 1) (P := Pt) hr (by rfl) T.all TB rfl ⟨rfl, rfl, by decide +kernel, by decide +kernel, rfl, rfl⟩ (pi_str (pv 0)) (fun A' code s4 H4 fp hr' => pe_call G hr' (by rfl) mgg kp bd .nil pass0 (pa_cons (pv 0) pa_nil)) (fun _ => rfl)))))), ?_⟩
    refine ⟨_, rfl, _, _, _, _, true, rfl, .ty _, .base (.str z), kit_ty (by decide +kernel), true, rfl, iteT ⟨_, rfl, z, rfl, line10 h2, _, rfl, _, _, rfl, rfl, true, dT h1, iteT ⟨_, rfl, z, rfl, hT _ hm, fun H2 hH2 => ?_⟩⟩⟩
    refine all_by (w := walk_str (z := z)) (fun _ => true) (fun _ H' => H' = H2) rfl (fun _ _ _ _ => trivial) (fun i v H3 H4 hi e y Z hZ => ?_) (fun H3 e _ => ?_) (fun i H3 _ e _ => by cases e)
    · obtain ⟨rfl, c, hc, rfl⟩ := y
      subst e
      refine ⟨_, rfl, c, rfl, h3 c ?_, hZ _ rfl⟩
      exact List.mem_of_getElem? (by rw [Array.getElem?_toList]; exact hc)
    · subst e
      exact k _ (Ex.tabbed hT hm hH2)
end
end TG
namespace TG
open PySem L2 Gx
/-- a page: its rows' tuples at as -/
structure PageAt (K : PySem.W.Frag) (H : Hp) (a : Addr) (as : List Addr) (rows : List (List Str)) : Prop where
  lst : SqL K H a (as.map V.ref)
  len : as.length = rows.length
  row : ∀ (i : Nat) (p : Addr) (r : List Str), as[i]? = some p → rows[i]? = some r → SqT K H p (sV r)
structure PgOk (rows : List (List Str)) : Prop where
  pos : 1 ≤ rows.length
  len : rows.length ≤ 30
  rows : ∀ r ∈ rows, RowOk r
theorem PageAt.ex {K : PySem.W.Frag} {cs : List (Addr × Addr)} {H H' : Hp} {a : Addr} {as : List Addr} {rows : List (List Str)} (p : PageAt K H a as rows) (e : Ex cs H H') : PageAt K H' a as rows :=
  ⟨e.sqL p.lst, p.len, fun i q r h1 h2 => e.sqT (p.row i q r h1 h2)⟩
theorem get_map {α β : Type} {f : α → β} {xs : List α} {i : Nat} {y : β} (h : (xs.map f)[i]? = some y) : ∃ x, xs[i]? = some x ∧ y = f x := by
  rw [List.getElem?_map] at h
  cases e : xs[i]? with
  | none => rw [e] at h; cases h
  | some x => rw [e] at h; cases h; exact ⟨x, rfl, rfl⟩
theorem getP {α : Type} {xs : List α} {i : Nat} (h : i < xs.length) : ∃ x, xs[i]? = some x := ⟨xs[i], List.getElem?_eq_getElem h⟩
section
variable {P : Program} {w : World} {K : PySem.W.Frag} {mg : Str → Option Value} {base : Heap} {cs : List (Addr × Addr)}
structure StyleAt (K : PySem.W.Frag) (H : Hp) (a : Addr) (gap least : Int) : Prop where
  tup : SqT K H a [.int gap, .int least]
  g0 : 0 ≤ gap
  g1 : gap ≤ 4
  l0 : 0 ≤ least
  l1 : least ≤ 12
end
end TG
namespace TG
open PySem L2 Gx
abbrev cl (z : Str) : List Nat := z.cps.toList
def restL (l : List Nat) : List Nat := if l.head? = some 45 then l.tail else l
def figB (z : Str) : Bool := decide (restL (cl z) ≠ []) && (restL (cl z)).all fun c => decide (48 ≤ c ∧ c ≤ 57)
theorem cut1 (z : Str) : cl (cutS z (some 1) none) = (cl z).tail := by
  obtain ⟨⟨l⟩⟩ := z
  unfold cutS
  simp only [cl, Str.length]
  rw [HT.sIx_none, show (some (1 : Int)) = some ((1 : Nat) : Int) from rfl, HT.sIx_nat]
  cases l with
  | nil => simp
  | cons a l => simp
theorem cut01 (z : Str) : cl (cutS z none (some 1)) = (cl z).take 1 := by
  obtain ⟨⟨l⟩⟩ := z
  unfold cutS
  simp only [cl, Str.length]
  rw [HT.sIx_none, show (some (1 : Int)) = some ((1 : Nat) : Int) from rfl, HT.sIx_nat]
  cases l with
  | nil => simp
  | cons a l => simp
section
variable {P : Program} {w : World} {K : PySem.W.Frag} {mg : Str → Option Value} {base : Heap} {cs : List (Addr × Addr)}
end
end TG
namespace TG
open PySem L2 Gx
def fillB (zs : List Str) : List Str := zs.filter fun z => decide (cl z ≠ [])
def rightB (zs : List Str) : Bool := decide (fillB zs ≠ []) && (fillB zs).all figB
section
variable {P : Program} {w : World} {K : PySem.W.Frag} {mg : Str → Option Value} {base : Heap} {cs : List (Addr × Addr)}
end
end TG
namespace TG
open PySem L2 Gx
def clB (rows : List (List Str)) (c i : Nat) : Bool := match rows[i]? with
  | some r => decide (c + 1 < r.length)
  | none => false
def hiB (rows : List (List Str)) (c i : Nat) : Nat := i + ((rows.drop i).takeWhile fun r => decide (c + 1 < r.length)).length
/-- pairs of numbers at ts -/
structure PairsAt (H : Hp) (ts : List Addr) (ps : List (Nat × Nat)) : Prop where
  len : ts.length = ps.length
  at_ : ∀ (i : Nat) (t : Addr) (p : Nat × Nat), ts[i]? = some t → ps[i]? = some p → H t = some (.tup [.int (p.1 : Nat), .int (p.2 : Nat)])
theorem PairsAt.keep {H H' : Hp} {ts : List Addr} {ps : List (Nat × Nat)} (h : PairsAt H ts ps) (k : ∀ b xs, H b = some (.tup xs) → H' b = some (.tup xs)) : PairsAt H' ts ps := ⟨h.len, fun i t p h1 h2 => k _ _ (h.at_ i t p h1 h2)⟩
section
variable {P : Program} {w : World} {K : PySem.W.Frag} {mg : Str → Option Value} {base : Heap} {cs : List (Addr × Addr)}
end
end TG
namespace TG
open PySem L2 Gx
abbrev nilS : Str := ⟨#[]⟩
def cellsB (rows : List (List Str)) (c b e : Nat) : List Str := ((rows.drop b).take (e - b)).map fun r => r.getD c nilS
def longB : List Str → Nat
  | [] => 0
  | z :: zs => max z.length (longB zs)
def widthB (zs : List Str) (gap least : Int) : Int := if least > (longB zs : Int) + gap then least else (longB zs : Int) + gap
def holdB (zs : List Str) (b : Nat) (gap least : Int) : List Int := if least < (longB zs : Int) + gap then ((List.range zs.length).filter fun i => decide ((zs.getD i nilS).length = longB zs)).map fun i => ((b + i : Nat) : Int) else []
section
variable {P : Program} {w : World} {K : PySem.W.Frag} {mg : Str → Option Value} {base : Heap} {cs : List (Addr × Addr)}
/-- the told tuple at t, its holders at h -/
def DescAt (H : Hp) (t h : Addr) (c b e : Nat) (zs : List Str) (gap least : Int) : Prop :=
  H t = some (.tup [.int (c : Nat), .int (b : Nat), .int (e : Nat), .int (widthB zs gap least), .bl (rightB zs), .ref h]) ∧ H h = some (.lst ((holdB zs b gap least).map V.int))
end
end TG
namespace TG
open PySem L2 Gx
/-- the told tuples at ts, their holders at hs -/
structure DescsAt (H : Hp) (ts hs : List Addr) (es : List (Nat × Nat × Nat)) (rows : List (List Str)) (gap least : Int) : Prop where
  len : ts.length = es.length
  len2 : hs.length = es.length
  at_ : ∀ (i : Nat) (t h : Addr) (q : Nat × Nat × Nat), ts[i]? = some t → hs[i]? = some h → es[i]? = some q → DescAt H t h q.1 q.2.1 q.2.2 (cellsB rows q.1 q.2.1 q.2.2) gap least
theorem DescsAt.keep {H H' : Hp} {ts hs : List Addr} {es : List (Nat × Nat × Nat)} {rows : List (List Str)} {gap least : Int} (x : DescsAt H ts hs es rows gap least) (k : ∀ b o, H b = some o → (b ∈ ts ∨ b ∈ hs) → (∀ ps, o ≠ .tbl ps) → H' b = some o) : DescsAt H' ts hs es rows gap least :=
  ⟨x.len, x.len2, fun i t h q h1 h2 h3 => ⟨k _ _ (x.at_ i t h q h1 h2 h3).1 (.inl (List.mem_of_getElem? h1)) (fun ps z => by cases z), k _ _ (x.at_ i t h q h1 h2 h3).2 (.inr (List.mem_of_getElem? h2)) (fun ps z => by cases z)⟩⟩
theorem StyleAt.ex {K : PySem.W.Frag} {cs : List (Addr × Addr)} {H H' : Hp} {a : Addr} {gap least : Int} (p : StyleAt K H a gap least) (e : Ex cs H H') : StyleAt K H' a gap least := ⟨e.sqT p.tup, p.g0, p.g1, p.l0, p.l1⟩
section
variable {P : Program} {w : World} {K : PySem.W.Frag} {mg : Str → Option Value} {base : Heap} {cs : List (Addr × Addr)}
end
end TG
namespace TG
open PySem L2 Gx
theorem cl_app (x y : Str) : cl (x ++ y) = cl x ++ cl y := TL.tl_append x y
theorem joinL_nil : ∀ l : List (List Nat), TL.joinL [] l = l.flatten
  | [] => rfl
  | [p] => by simp [TL.joinL]
  | p :: q :: r => by
    show p ++ ([] ++ TL.joinL [] (q :: r)) = _
    rw [joinL_nil (q :: r)]
    rfl
theorem cl_join (ys : List Str) : cl (Txt.join "" ys) = (ys.map cl).flatten := by
  have e : ("" : Str) = SX.S [] := by decide +kernel
  have e2 : ys = (ys.map cl).map SX.S := by
    rw [List.map_map]
    conv => lhs; rw [← List.map_id ys]
    exact List.map_congr_left fun y _ => (SX.S_tl y).symm
  rw [e]
  conv => lhs; rw [e2]
  rw [SX.join_S, joinL_nil]
theorem num_ok {n : Int} (h0 : 0 ≤ n) (h1 : n < 10 ^ 9) : (Str.ofString (toString n)).length ≤ 9 ∧ ∀ c ∈ cl (Str.ofString (toString n)), 48 ≤ c ∧ c ≤ 57 := by
  refine ⟨PyProof.Rows.toString_length_le h0 (by decide) h1, fun c hc => ?_⟩
  obtain ⟨m, rfl⟩ := Int.eq_ofNat_of_zero_le h0
  have hc' : c ∈ (Str.ofString (toString ((m : Nat) : Int))).cps.toList := hc
  rw [PySem.W.KIN.signs_num] at hc'
  obtain ⟨ch, hch, e⟩ := List.mem_map.mp hc'
  have r := PyProof.Rows.digit_range (Nat.isDigit_of_mem_toDigits (by decide) (by decide) hch)
  rw [← e]
  exact r
instance (c : Nat) : Decidable (SgOk c) := inferInstanceAs (Decidable (32 ≤ c ∧ c ≤ 126 ∧ c ≠ 37))
theorem sg_of {z : Str} (h : (z.cps.toList.all fun c => decide (SgOk c)) = true) : ∀ c ∈ cl z, SgOk c := fun c hc => of_decide_eq_true (List.all_eq_true.mp h c hc)
end TG
namespace TG
open PySem L2 Gx
abbrev everyS : Str := " !\"#$&'()*+,-./0123456789:;<=>?@ABCDEFGHIJKLMNOPQRSTUVWXYZ[\\]^_`abcdefghijklmnopqrstuvwxyz{|}~"
theorem every_ok : ∀ c ∈ cl everyS, SgOk c := sg_of (by decide +kernel)
theorem emp_len : (Str.ofString "").length = 0 := by decide +kernel
theorem every_len : (cl everyS).length = 94 := by decide +kernel
/-- one of a written list -/
theorem pick {α : Type} {xs : List α} {i : Int} (h0 : 0 ≤ i) (h1 : i < xs.length) : ∃ x, x ∈ xs ∧ atI xs i = some x := by
  obtain ⟨n, rfl⟩ := Int.eq_ofNat_of_zero_le h0
  have hn : n < xs.length := by have : ((n : Nat) : Int) < xs.length := h1; omega
  exact ⟨xs[n], List.getElem_mem hn, atI_nat (List.getElem?_eq_getElem hn)⟩
theorem len_cl (z : Str) : z.length = (cl z).length := by simp [Str.length, cl]
theorem box_new {H : Hp} {b l p : Addr} {o : HO} (x : BoxAt H b l) (n : H p = none) : BoxAt (upd H p o) b l := by
  obtain ⟨ns, st, h1, h2, h3⟩ := x
  exact ⟨ns, st, by rw [upd_ne (ne_of_none h1 n)]; exact h1, by rw [upd_ne (ne_of_none h2 n)]; exact h2, h3⟩
theorem new_ne {H : Hp} {b l p : Addr} (x : BoxAt H b l) (n : H p = none) : p ≠ b ∧ p ≠ l := by
  obtain ⟨ns, st, h1, h2, h3⟩ := x
  exact ⟨(ne_of_none h1 n).symm, (ne_of_none h2 n).symm⟩
theorem box_upd {H : Hp} {b l p : Addr} {o : HO} (x : BoxAt H b l) (h1 : p ≠ b) (h2 : p ≠ l) : BoxAt (upd H p o) b l := by
  obtain ⟨ns, st, g1, g2, g3⟩ := x
  exact ⟨ns, st, by rw [upd_ne h1.symm]; exact g1, by rw [upd_ne h2.symm]; exact g2, g3⟩
theorem kb_new {H : Hp} {b l p : Addr} {o : HO} (n : H p = none) : KB b l H (upd H p o) := fun c u e _ _ => by rw [upd_ne (ne_of_none e n)]; exact e
theorem kb_upd {H H' : Hp} {b l p : Addr} {o : HO} (x : KB b l H H') (n : H p = none) : KB b l H (upd H' p o) := fun c u e h1 h2 => by rw [upd_ne (ne_of_none e n)]; exact x c u e h1 h2
theorem atI_map {α β : Type} {f : α → β} {xs : List α} {i : Int} {x : α} (h : atI xs i = some x) : atI (xs.map f) i = some (f x) := by
  unfold atI at h ⊢
  rw [List.length_map]
  cases e : ixN xs.length i with
  | none => rw [e] at h; cases h
  | some j =>
    rw [e] at h
    have h' : xs[j]? = some x := h
    show (xs.map f)[j]? = some (f x)
    rw [List.getElem?_map, h']
    rfl
/-- a list of single signs at D -/
structure OnesAt (b l : Addr) (H : Hp) (D : Addr) (i : Nat) (H' : Hp) : Prop where
  box : BoxAt H' b l
  keep : KB b l H H'
  nD : H D = none
  db : D ≠ b
  dl : D ≠ l
  ones : ∃ cs : List Nat, cs.length = i ∧ (∀ c ∈ cs, SgOk c) ∧ H' D = some (.lst (sV (cs.map fun c => ⟨#[c]⟩)))
theorem OnesAt.start {b l : Addr} {H H1 : Hp} {D : Addr} (hB : BoxAt H1 b l) (x : KB b l H H1) (n : H1 D = none) (nb : BoxAt H b l) : OnesAt b l H D 0 (upd H1 D (.lst [])) := by
  obtain ⟨d1, d2⟩ := new_ne hB n
  have nD : H D = none := by
    cases e : H D with
    | none => rfl
    | some o => rw [x D o e d1 d2] at n; cases n
  exact ⟨box_new hB n, kb_upd x nD, nD, d1, d2, [], rfl, fun c h => by simp at h, upd_same⟩
theorem OnesAt.more {b l : Addr} {H H1 H2 : Hp} {D : Addr} {i c : Nat} (o : OnesAt b l H D i H1) (hc : SgOk c) (hB : BoxAt H2 b l) (x : KB b l H1 H2) :
    ∃ acc, H2 D = some (.lst acc) ∧ acc.length = i ∧ OnesAt b l H D (i + 1) (upd H2 D (.lst (acc ++ [.str ⟨#[c]⟩]))) := by
  obtain ⟨cs, h1, h2, h3⟩ := o.ones
  refine ⟨_, x D _ h3 o.db o.dl, by rw [List.length_map, List.length_map, h1], box_upd hB o.db o.dl, kb_upd (o.keep.trans x) o.nD, o.nD, o.db, o.dl, cs ++ [c], by rw [List.length_append, h1]; rfl, fun d hd => ?_, ?_⟩
  · rcases List.mem_append.mp hd with h | h
    · exact h2 d h
    · rw [List.mem_singleton.mp h]; exact hc
  · rw [upd_same]
    simp [sV]
theorem OnesAt.done {b l : Addr} {H H1 : Hp} {D : Addr} {i : Nat} (o : OnesAt b l H D i H1) : ∃ ys : List Str, H1 D = some (.lst (ys.map V.str)) ∧ ys.length = i ∧ (ys.map fun y => y.length).sum = i ∧ (i ≤ 10 → CellOk (Txt.join "" ys)) := by
  obtain ⟨cs, h1, h2, h3⟩ := o.ones
  refine ⟨_, h3, by rw [List.length_map, h1], ?_, fun hi => ?_⟩
  · rw [← h1]
    clear h1 h2 h3
    induction cs with
    | nil => rfl
    | cons c cs ih =>
      rw [List.map_cons, List.map_cons, List.sum_cons, ih, List.length_cons]
      show 1 + cs.length = cs.length + 1
      omega
  · have e : cl (Txt.join "" (cs.map fun c => (⟨#[c]⟩ : Str))) = cs := by
      rw [cl_join, List.map_map]
      clear h1 h2 h3
      induction cs with
      | nil => rfl
      | cons c cs ih =>
        rw [List.map_cons, List.flatten_cons, ih]
        rfl
    exact ⟨by rw [len_cl, e, h1]; exact hi, fun c hc => h2 c (by have hc : c ∈ cl _ := hc; rw [e] at hc; exact hc)⟩
section
variable {P : Program} {w : World} {K : PySem.W.Frag} {mg : Str → Option Value} {base : Heap} {cs : List (Addr × Addr)}
def spSign : Sp := fun vs H Q _ => ∃ (b l : Addr), vs = [.ref b] ∧ BoxAt H b l ∧ ∀ (c : Nat) (H' : Hp), SgOk c → BoxAt H' b l → KB b l H H' → Q (.str ⟨#[c]⟩) H'
theorem sc_sign : FnScope ["_law_box", "_law_every"] ["_law_box"] (defScope s_sign) := ⟨rfl, rfl, rfl, by decide +kernel, rfl, by decide +kernel, by decide +kernel⟩
theorem ok_sign {f g : Addr} {fd fdg : FuncData} (F : Fun K "_law_sign" "_law_sign" s_sign f fd)
    (G : FnOk P w K mg base CX0 1 g fdg ["_law_box", "_law_many"] spTake) (kp : PySem.W.keepIn K (.ref g) = true) (bd : Binds K fdg ["_law_box", "_law_many"] []) (mgg : mg "_law_take" = some (.ref g)) : FnOk P w K mg base CX0 2 f fd ["_law_box"] spSign := by
  refine F.ok sc_sign (fun vs H Q E h => ?_) (fun cdv A outer s H vs Q E hr h => ?_)
  · obtain ⟨b, l, rfl, _⟩ := h
    rfl
  · obtain ⟨b, l, rfl, hB, k⟩ := h
    have nd := sc_sign.nd
    refine ⟨_, pss_cons (ps_set (i := 1) nd rfl (.inl rfl) pe_str) (pss_one (ps_ret (pe_ix ix_str (pv 1) (pe_call G hr (by rfl) mgg kp bd .nil pass0 (pa_cons (pv 0) (pa_cons pe_int pa_nil))) (fun _ _ => rfl)))), ?_⟩
    refine ⟨_, rfl, _, rfl, b, l, 94, rfl, hB, by decide, by decide, fun r H1 r0 r1 hB1 x1 => ?_⟩
    obtain ⟨c, hc, e⟩ := pick (xs := cl everyS) r0 (by rw [every_len]; exact r1)
    exact ⟨everyS, r, c, rfl, rfl, line10 (by decide +kernel), e, k c H1 (every_ok c hc) hB1 x1⟩
end
end TG
namespace TG
open PySem L2 Gx
theorem new_old {b l p : Addr} {H H1 : Hp} (x : KB b l H H1) (hB : BoxAt H1 b l) (n : H1 p = none) : H p = none := by
  obtain ⟨d1, d2⟩ := new_ne hB n
  cases e : H p with
  | none => rfl
  | some o => rw [x p o e d1 d2] at n; cases n
/-- a list of cells at D -/
structure StrsAt (b l : Addr) (H : Hp) (D : Addr) (i : Nat) (H' : Hp) : Prop where
  box : BoxAt H' b l
  keep : KB b l H H'
  nD : H D = none
  db : D ≠ b
  dl : D ≠ l
  zsat : ∃ zs : List Str, zs.length = i ∧ (∀ z ∈ zs, CellOk z) ∧ H' D = some (.lst (sV zs))
theorem StrsAt.start {b l : Addr} {H H1 : Hp} {D : Addr} (hB : BoxAt H1 b l) (x : KB b l H H1) (n : H1 D = none) : StrsAt b l H D 0 (upd H1 D (.lst [])) := by
  obtain ⟨d1, d2⟩ := new_ne hB n
  have nD := new_old x hB n
  exact ⟨box_new hB n, kb_upd x nD, nD, d1, d2, [], rfl, fun c h => by simp at h, upd_same⟩
theorem StrsAt.more {b l : Addr} {H H1 H2 : Hp} {D : Addr} {i : Nat} {z : Str} (o : StrsAt b l H D i H1) (hc : CellOk z) (hB : BoxAt H2 b l) (x : KB b l H1 H2) :
    ∃ acc, H2 D = some (.lst acc) ∧ acc.length = i ∧ StrsAt b l H D (i + 1) (upd H2 D (.lst (acc ++ [.str z]))) := by
  obtain ⟨zs, h1, h2, h3⟩ := o.zsat
  refine ⟨_, x D _ h3 o.db o.dl, by rw [List.length_map, h1], box_upd hB o.db o.dl, kb_upd (o.keep.trans x) o.nD, o.nD, o.db, o.dl, zs ++ [z], by rw [List.length_append, h1]; rfl, fun d hd => ?_, ?_⟩
  · rcases List.mem_append.mp hd with h | h
    · exact h2 d h
    · rw [List.mem_singleton.mp h]; exact hc
  · rw [upd_same]
    simp [sV]
/-- a list of numbers at D, below m -/
structure IntsAt (b l : Addr) (H : Hp) (D : Addr) (i : Nat) (H' : Hp) : Prop where
  box : BoxAt H' b l
  keep : KB b l H H'
  nD : H D = none
  db : D ≠ b
  dl : D ≠ l
  isat : ∃ zs : List Int, zs.length = i ∧ H' D = some (.lst (zs.map V.int))
theorem IntsAt.start {b l : Addr} {H H1 : Hp} {D : Addr} (hB : BoxAt H1 b l) (x : KB b l H H1) (n : H1 D = none) : IntsAt b l H D 0 (upd H1 D (.lst [])) := by
  obtain ⟨d1, d2⟩ := new_ne hB n
  have nD := new_old x hB n
  exact ⟨box_new hB n, kb_upd x nD, nD, d1, d2, [], rfl, upd_same⟩
theorem IntsAt.more {b l : Addr} {H H1 H2 : Hp} {D : Addr} {i : Nat} {z : Int} (o : IntsAt b l H D i H1) (hB : BoxAt H2 b l) (x : KB b l H1 H2) :
    ∃ acc, H2 D = some (.lst acc) ∧ acc.length = i ∧ IntsAt b l H D (i + 1) (upd H2 D (.lst (acc ++ [.int z]))) := by
  obtain ⟨zs, h1, h3⟩ := o.isat
  refine ⟨_, x D _ h3 o.db o.dl, by rw [List.length_map, h1], box_upd hB o.db o.dl, kb_upd (o.keep.trans x) o.nD, o.nD, o.db, o.dl, zs ++ [z], by rw [List.length_append, h1]; rfl, ?_⟩
  rw [upd_same]
  simp
/-- rows' tuples -/
def RowsP (H : Hp) (as : List Addr) : Prop := ∀ p ∈ as, ∃ r, H p = some (.tup (sV r)) ∧ RowOk r
theorem RowsP.keep {H H' : Hp} {as : List Addr} (x : RowsP H as) (k : ∀ p xs, H p = some (.tup xs) → H' p = some (.tup xs)) : RowsP H' as := fun p hp => by
  obtain ⟨r, h1, h2⟩ := x p hp
  exact ⟨r, k _ _ h1, h2⟩
theorem RowsP.page {H : Hp} : ∀ {as : List Addr}, RowsP H as → ∃ rows : List (List Str), as.length = rows.length ∧ (∀ (i : Nat) (p : Addr) (r : List Str), as[i]? = some p → rows[i]? = some r → H p = some (.tup (sV r))) ∧ ∀ r ∈ rows, RowOk r
  | [], _ => ⟨[], rfl, fun i p r h => by simp at h, fun r h => by simp at h⟩
  | a :: as, x => by
    obtain ⟨rows, h1, h2, h3⟩ := RowsP.page (as := as) fun p hp => x p (List.mem_cons_of_mem _ hp)
    obtain ⟨r, g1, g2⟩ := x a List.mem_cons_self
    refine ⟨r :: rows, by rw [List.length_cons, List.length_cons, h1], fun i p q e1 e2 => ?_, fun q hq => ?_⟩
    · cases i with
      | zero => cases e1; cases e2; exact g1
      | succ i => exact h2 i p q (by simpa using e1) (by simpa using e2)
    · rcases List.mem_cons.mp hq with z | z
      · rw [z]; exact g2
      · exact h3 q z
section
variable {P : Program} {w : World} {K : PySem.W.Frag} {mg : Str → Option Value} {base : Heap} {cs : List (Addr × Addr)}
end
end TG
namespace TG
open PySem L2 Gx
theorem same_new {H : Hp} {p : Addr} {o : HO} (n : H p = none) : Same H (upd H p o) := fun c u h => by rw [upd_ne (ne_of_none h n)]; exact h
theorem canAll_strs : ∀ {zs : List Str}, (∀ z ∈ zs, ∀ c ∈ cl z, SgOk c) → PyData.canLayAll0 (zs.map PyData.str) = true
  | [], _ => rfl
  | z :: zs, h => by
    rw [List.map_cons]
    simp only [PyData.canLayAll0, PyData.canLay0, Bool.and_eq_true]
    refine ⟨?_, canAll_strs fun y hy => h y (List.mem_cons_of_mem _ hy)⟩
    unfold PyData.strOk
    rw [← Array.all_toList, List.all_eq_true]
    intro c hc
    have := h z List.mem_cons_self c hc
    unfold SgOk at this
    exact decide_eq_true (by omega)
theorem depthAll_strs : ∀ zs : List Str, PyData.depthAll (zs.map PyData.str) = 0
  | [] => rfl
  | _ :: r => by simp [PyData.depthAll, PyData.depth, depthAll_strs r]
theorem dp_strs {K : PySem.W.Frag} {H : Hp} : ∀ zs : List Str, DpAll K H (sV zs) (zs.map PyData.str)
  | [] => .nil
  | z :: zs => .cons (.str z) (dp_strs zs)
section
variable {P : Program} {w : World} {K : PySem.W.Frag} {mg : Str → Option Value} {base : Heap} {cs : List (Addr × Addr)}
end
end TG
namespace TG
open PySem L2 Gx
def loB (rows : List (List Str)) (c : Nat) : Nat → Nat
  | 0 => 0
  | i + 1 => if clB rows c i = true then loB rows c i else i + 1
section
variable {P : Program} {w : World} {K : PySem.W.Frag} {mg : Str → Option Value} {base : Heap} {cs : List (Addr × Addr)}
end
end TG
namespace TG
open PySem L2 Gx
end TG
namespace TG
open PySem L2 Gx
def wB (rows : List (List Str)) (gap least : Int) (i c : Nat) : Int := widthB (cellsB rows c (loB rows c i) (hiB rows c i)) gap least
def rB (rows : List (List Str)) (i c : Nat) : Bool := rightB (cellsB rows c (loB rows c i) (hiB rows c i))
end TG
namespace TG
open PySem L2 Gx
section
variable {P : Program} {w : World} {K : PySem.W.Frag} {mg : Str → Option Value} {base : Heap} {cs : List (Addr × Addr)}
end
end TG
namespace TG
open PySem L2 Gx
/-- the list at l holds what is told of the first n closed cells of row i -/
def CellsAt (H : Hp) (rows : List (List Str)) (gap least : Int) (i n : Nat) (l : Addr) : Prop :=
  ∃ ts : List Addr, H l = some (.lst (ts.map V.ref)) ∧ ts.length = n ∧ ∀ (c : Nat) (t : Addr), ts[c]? = some t → H t = some (.tup [.int (wB rows gap least i c), .bl (rB rows i c)])
theorem CellsAt.ext {H H' : Hp} {rows : List (List Str)} {gap least : Int} {i n : Nat} {l : Addr} (x : CellsAt H rows gap least i n l) (e : LamX.ExtN H H') : CellsAt H' rows gap least i n l :=
  let ⟨ts, h1, h2, h3⟩ := x
  ⟨ts, e _ _ h1 (by intro ps z; cases z), h2, fun c t h => e _ _ (h3 c t h) (by intro ps z; cases z)⟩
theorem CellsAt.upd {H : Hp} {rows : List (List Str)} {gap least : Int} {i n : Nat} {l p : Addr} {xs : List V} {o : HO} (x : CellsAt H rows gap least i n l) (hp : H p = some (.lst xs)) (ne : l ≠ p) : CellsAt (upd H p o) rows gap least i n l :=
  let ⟨ts, h1, h2, h3⟩ := x
  ⟨ts, by rw [upd_ne ne]; exact h1, h2, fun c t h => by rw [upd_ne (ne_of (h3 c t h) hp (by intro z; cases z))]; exact h3 c t h⟩
section
variable {P : Program} {w : World} {K : PySem.W.Frag} {mg : Str → Option Value} {base : Heap} {cs : List (Addr × Addr)}
end
end TG
namespace TG
open PySem L2 Gx
/-- the list at r holds lists of numbers, f tells them -/
structure ToldAt (H : Hp) (r : Addr) (es : List Addr) (f : Nat → List Int) (n : Nat) : Prop where
  lst : H r = some (.lst (es.map V.ref))
  len : es.length = n
  nd : es.Nodup
  at_ : ∀ (i : Nat) (e : Addr), es[i]? = some e → H e = some (.lst ((f i).map V.int))
theorem ToldAt.ext {H H' : Hp} {r : Addr} {es : List Addr} {f : Nat → List Int} {n : Nat} (t : ToldAt H r es f n) (x : LamX.ExtN H H') : ToldAt H' r es f n :=
  ⟨x _ _ t.lst (by intro ps z; cases z), t.len, t.nd, fun i e h => x _ _ (t.at_ i e h) (by intro ps z; cases z)⟩
theorem tabs_ext {cs : List (Addr × Addr)} {H H' : Hp} (t : Tabs cs H) (x : Same H H') : Tabs cs H' := fun p hp => let ⟨ps, h1, h2⟩ := t p hp; ⟨ps, x _ _ h1, h2⟩
theorem same_ext {H H' : Hp} (x : Same H H') : LamX.ExtN H H' := fun b o e _ => x b o e
section
variable {P : Program} {w : World} {K : PySem.W.Frag} {mg : Str → Option Value} {base : Heap} {cs : List (Addr × Addr)}
end
end TG
namespace TG
open PySem L2 Gx
section
variable {P : Program} {w : World} {K : PySem.W.Frag} {mg : Str → Option Value} {base : Heap} {cs : List (Addr × Addr)}
end
end TG
namespace TG
open PySem L2 Gx
section
variable {P : Program} {w : World} {K : PySem.W.Frag} {mg : Str → Option Value} {base : Heap} {cs : List (Addr × Addr)}
end
end TG
namespace TG
open PySem L2 Gx
theorem ToldAt.go {H H' : Hp} {r : Addr} {es : List Addr} {f : Nat → List Int} {n : Nat} (t : ToldAt H r es f n) (x : Same H H') : ToldAt H' r es f n := t.ext (same_ext x)
section
variable {P : Program} {w : World} {K : PySem.W.Frag} {mg : Str → Option Value} {base : Heap} {cs : List (Addr × Addr)}
end
end TG
namespace TG
open PySem L2 Gx
theorem ToldAt.congr {H : Hp} {r : Addr} {es : List Addr} {f g : Nat → List Int} {n : Nat} (t : ToldAt H r es f n) (e : ∀ i, i < n → f i = g i) : ToldAt H r es g n :=
  ⟨t.lst, t.len, t.nd, fun i u h => by rw [← e i (by rw [← t.len]; exact (List.getElem?_eq_some_iff.mp h).1)]; exact t.at_ i u h⟩
section
variable {P : Program} {w : World} {K : PySem.W.Frag} {mg : Str → Option Value} {base : Heap} {cs : List (Addr × Addr)}
end
end TG
namespace TG
open PySem L2 Gx
def rowsD (rows : List (List Str)) : List PyData := rows.map fun r => .tuple (r.map .str)
theorem dp_rows {K : PySem.W.Frag} {H : Hp} : ∀ {as : List Addr} {rows : List (List Str)}, as.length = rows.length → (∀ (i : Nat) (q : Addr) (r : List Str), as[i]? = some q → rows[i]? = some r → SqT K H q (sV r)) → DpAll K H (as.map V.ref) (rowsD rows)
  | [], [], _, _ => .nil
  | [], _ :: _, h, _ => by simp at h
  | _ :: _, [], h, _ => by simp at h
  | a :: as, r :: rows, h, k => .cons (.tup (k 0 a r rfl rfl) (dp_strs r)) (dp_rows (by simpa using h) fun i q r' h1 h2 => k (i + 1) q r' (by simpa using h1) (by simpa using h2))
theorem depthAll_rows : ∀ rows : List (List Str), PyData.depthAll (rowsD rows) ≤ 1
  | [] => Nat.zero_le _
  | r :: rows => by
    show PyData.depthAll (.tuple (r.map .str) :: rowsD rows) ≤ 1
    simp only [PyData.depthAll, PyData.depth, depthAll_strs]
    have := depthAll_rows rows
    omega
theorem tabs_kb {cs : List (Addr × Addr)} {b l : Addr} {H H' : Hp} (t : Tabs cs H) (B : BoxAt H b l) (x : KB b l H H') : Tabs cs H' := fun p hp => by
  obtain ⟨ps, h1, h2⟩ := t p hp
  obtain ⟨ns, st, e1, e2, _⟩ := B
  exact ⟨ps, x _ _ h1 (ne_of h1 e1 (by intro z; cases z)) (ne_of h1 e2 (by intro z; cases z)), h2⟩
theorem box_ext {b l : Addr} {H H' : Hp} (B : BoxAt H b l) (x : LamX.ExtN H H') : BoxAt H' b l := let ⟨ns, st, h1, h2, h3⟩ := B; ⟨ns, st, x _ _ h1 (by intro ps z; cases z), x _ _ h2 (by intro ps z; cases z), h3⟩
/-- what stands in a turn of the law: the box, the tables, the page and its copy, the style -/
structure PageT (cs : List (Addr × Addr)) (b l p q h : Addr) (as : List Addr) (rows : List (List Str)) (gap least : Int) (H : Hp) : Prop where
  box : BoxAt H b l
  tab : Tabs cs H
  pg : H p = some (.lst (as.map V.ref))
  hd : H h = some (.lst (as.map V.ref))
  al : as.length = rows.length
  row : ∀ (i : Nat) (a : Addr) (z : List Str), as[i]? = some a → rows[i]? = some z → H a = some (.tup (sV z))
  sty : H q = some (.tup [.int gap, .int least])
  g0 : 0 ≤ gap
  g1 : gap ≤ 4
  l0 : 0 ≤ least
  l1 : least ≤ 12
  ok : PgOk rows
theorem PageT.ext {cs : List (Addr × Addr)} {b l p q h : Addr} {as : List Addr} {rows : List (List Str)} {gap least : Int} {H H' : Hp} (t : PageT cs b l p q h as rows gap least H) (x : LamX.ExtN H H') (y : Tabs cs H') : PageT cs b l p q h as rows gap least H' :=
  ⟨box_ext t.box x, y, x _ _ t.pg (by intro ps z; cases z), x _ _ t.hd (by intro ps z; cases z), t.al, fun i a z h1 h2 => x _ _ (t.row i a z h1 h2) (by intro ps z; cases z), x _ _ t.sty (by intro ps z; cases z), t.g0, t.g1, t.l0, t.l1, t.ok⟩
end TG
namespace Zm
open PySem PySem.Spec PyProof.Rows L2
section
variable {P : Program} {w : World} {A : Around} {E : Value → Shared → Prop} {s : Shared} {z TI TO i1 i2 l1 l2 : Addr}
end
end Zm
namespace Zm
open PySem PySem.Spec PyProof.Rows L2
abbrev k1 (h : Heap) (a : Addr) : Heap := h.push { cls := .type "tuple_iterator", data := .fields #[.ref a, .int 0 0] }
abbrev k2 (h : Heap) (a b : Addr) : Heap := (k1 h a).push { cls := .type "list_iterator", data := .fields #[.ref b, .int 0 0] }
abbrev k3 (h : Heap) (a b : Addr) : Heap := (k2 h a b).push { cls := .type "tuple", data := .seq #[.ref h.objs.size, .ref (k1 h a).objs.size] }
abbrev k4 (h : Heap) (a b : Addr) : Heap := (k3 h a b).push { cls := .type "tuple", data := .seq #[.none, .none] }
abbrev k5 (h : Heap) (a b : Addr) : Heap := (k4 h a b).push { cls := .type "zip", data := .fields #[.none, .bool false, .bool false, .ref (k2 h a b).objs.size, .ref (k3 h a b).objs.size] }
theorem made (a b : Addr) (xs ys : Array Value) : Meets (Builtin.«zip.__new__» ⟨[.type "zip", .ref a, .ref b], []⟩) (fun _ R t => t.heap.IsTuple a xs ∧ t.heap.IsList b ys ∧ R (.ok (.ret (.ref (k4 t.heap a b).objs.size))) { t with heap := k5 t.heap a b }) :=
  .of_wp fun P w A R t h => by
    obtain ⟨hp, g, d, tk, os⟩ := t
    obtain ⟨u1, u2, h⟩ := h
    have hsub := sub_zip
    have v1 : Heap.IsTuple (Shared.heap ⟨hp, g, d, tk, os⟩) a xs := u1
    have v2 : Heap.IsList (Shared.heap ⟨hp.push { cls := .type "tuple_iterator", data := .fields #[.ref a, .int 0 0] }, g, d, tk, os⟩) b ys := Heap.IsList.push u2 _
    wp_walk using wpAny_pyIter_tuple v1, wpAny_pyIter_list v2
    exact ⟨_, rfl, h⟩
section
variable {P : Program} {w : World} {A : Around} {E : Value → Shared → Prop} {s : Shared}
end
end Zm
namespace TG
open PySem L2 Gx
structure Small (rows : List (List Str)) (gap least : Int) : Prop where
  ok : PgOk rows
  g0 : 0 ≤ gap
  g1 : gap ≤ 4
  l0 : 0 ≤ least
  l1 : least ≤ 12
section
variable {P : Program} {w : World} {K : PySem.W.Frag} {mg : Str → Option Value} {base : Heap} {cs : List (Addr × Addr)}
end
end TG
namespace TG
open PySem L2 Gx
section
variable {P : Program} {w : World} {K : PySem.W.Frag} {mg : Str → Option Value} {base : Heap} {cs : List (Addr × Addr)}
end
end TG
namespace Lv
open PySem PySem.Spec PyProof.Rows L2 NdefX GenW
/-- the object at f is the lambda F of the body e -/
def FnL (f : Addr) (F : NF) (e : Expr) : HO := .ext fun h => ∃ (od : Option Addr) (sl : Array (Option Value)) (pm ctv : Value), h.get? f = some (⟨.type "function", od, .func (PySem.W.kla_fn F.name F.qual F.params e F.scope F.cl pm (.ref F.c) ctv), sl⟩ : Obj)
theorem fnL_at {P : Program} {w : World} {H : Hp} {h : Heap} {f : Addr} {F : NF} {e : Expr} (hok : HOk P w H h) (q : H f = some (FnL f F e)) : ∃ (od : Option Addr) (sl : Array (Option Value)) (pm ctv : Value), h.get? f = some (⟨.type "function", od, .func (PySem.W.kla_fn F.name F.qual F.params e F.scope F.cl pm (.ref F.c) ctv), sl⟩ : Obj) := by
  have z := hok f _ q
  obtain ⟨z, _, _⟩ := z
  exact z
theorem fnL_ne {f : Addr} {F : NF} {e : Expr} (ps : Array Value) : FnL f F e ≠ .tbl ps := fun z => by
  unfold FnL at z
  cases z
section
variable {X : Cx} {pins : List (Addr × Obj)} {σ : L2.St} {H : Hp} {s : Shared}
theorem inv_lam {F : NF} {e : Expr} {tk : Nat} {pm ctv : Value} (I : Inv X pins σ H s) :
    Inv X pins σ (upd H s.heap.objs.size (FnL s.heap.objs.size F e)) { s with heap := s.heap.push (PySem.W.kla_obj F.name F.qual F.params e F.scope F.cl pm F.c ctv), toks := tk } := by
  refine I.laid (a := s.heap.objs.size) (fun b u q => Heap.get?_push_of_some _ q) (Nat.le_refl _) ?_
  have q : (s.heap.push (PySem.W.kla_obj F.name F.qual F.params e F.scope F.cl pm F.c ctv)).get? s.heap.objs.size = some (PySem.W.kla_obj F.name F.qual F.params e F.scope F.cl pm F.c ctv) := Heap.get?_push_size _ rfl
  exact ⟨⟨_, _, pm, ctv, q⟩, ⟨_, q⟩, fun h1 h2 ⟨od, sl, p, t, z⟩ st => ⟨od, sl, p, t, st _ z⟩⟩
/-- a lambda's object is made, its code object too, if the table has none yet -/
theorem lam_val {c P : Addr} {params : Arguments} {body : Expr} {scope : Scope} {pos : Pos} {E : Value → Shared → Prop} {Q : Value → Shared → Prop} (I : Inv X pins σ H s) (B : LamX.TabB X.base X.mg c P) (hcode : X.env.code = .ref c)
    (hT : LamX.TabS H P (X.env.qual ++ "<lambda>")) (hdef : defaultsOf params X.env = ([], [])) (hfree : ∀ y ∈ scope.names, y.2 = .free → ∃ c, X.env.cells.lookup y.1 = some c)
    (k : ∀ (f c' : Addr) (H1 : Hp) (s' : Shared), Inv X pins σ H1 s' → (∀ b o, H b = some o → b ≠ P → H1 b = some o) → (∀ b, H1 b = none → H b = none) → LamX.TabS H1 P (X.env.qual ++ "<lambda>") → H f = none →
      H1 f = some (FnL f ⟨"<lambda>", X.env.qual ++ "<lambda>", params, [], scope, cloFrom X.env.cells scope.names [], c'⟩ body) → H1 c' = some (LamX.CodeO c' (X.env.qual ++ "<lambda>")) → Q (.ref f) s') :
    wpAny (model X.prog X.w) X.A (eval (.Lambda params body scope pos) X.env) Q E s := by
  obtain ⟨ps, tP, tok, tin⟩ := hT
  have bP : s.heap.BuiltinsAt X.mg P := B.bm.keeps I.bk
  have gP : s.heap.get? P = some { cls := .none, data := .fields ps } := I.hok P _ tP
  have none3 : ∀ {G : Hp} {x y z : Addr} {o u v : HO} {b : Addr}, upd (upd (upd G x o) y u) z v b = none → G b = none := fun {G x y z o u v b} q => by
    have r1 := q
    unfold upd at r1
    split at r1
    · cases r1
    split at r1
    · cases r1
    split at r1
    · cases r1
    exact r1
  refine PySem.W.kla_eval hdef ?_
  cases hc : codeAmong pos ps.toList with
  | some cv =>
    obtain ⟨c', e, hco⟩ := tin pos cv hc
    subst e
    refine PySem.W.kla_makeFunctionHit (mg := X.mg) (c := c) (P := P) (ps := ps) (closure_ok hfree) I.ok.glob (I.mod.glob.keeps I.bk) hcode (B.code.keeps I.bk) gP tok hc bP fun ctv h' tk hx hsz => ?_
    have I1 : Inv X pins σ H { s with heap := h', toks := tk } := I.kept hx
    have nF : H h'.objs.size = none := I1.hok.fresh (Nat.le_refl _)
    have I2 := inv_lam (F := ⟨"<lambda>", X.env.qual ++ "<lambda>", params, [], scope, cloFrom X.env.cells scope.names [], c'⟩) (e := body) (tk := tk) (pm := (X.mg "__name__").getD .none) (ctv := ctv) I1
    refine k h'.objs.size c' _ _ I2 (fun b o q _ => by rw [upd_ne (ne_of_none q nF)]; exact q) (fun b q => ?_) ⟨ps, by rw [upd_ne (ne_of_none tP nF)]; exact tP, tok, fun p' cv' q => ?_⟩ nF upd_same (by rw [upd_ne (ne_of_none hco nF)]; exact hco)
    · unfold upd at q
      split at q
      · cases q
      · exact q
    · obtain ⟨c0, e1, e2⟩ := tin p' cv' q
      exact ⟨c0, e1, by rw [upd_ne (ne_of_none e2 nF)]; exact e2⟩
  | none =>
    refine PySem.W.kla_makeFunction (mg := X.mg) (c := c) (P := P) (ps := ps) (closure_ok hfree) I.ok.glob (I.mod.glob.keeps I.bk) hcode (B.code.keeps I.bk) gP tok hc B.gP bP fun c' ctv h' tk hx hge hlt hrec htb => ?_
    obtain ⟨c2, oc, vs, t, e2, hoc, hd, hv⟩ := hrec
    cases e2
    have nC : H c' = none := I.hok.fresh hge
    have I1 := LamX.inv_table (t' := tk) (more := #[rawInt pos.line, rawInt pos.col, .ref c']) (h' := h') I tP (fun b o hb q => hx b o hb q) htb hge ⟨oc, vs, t, hoc, hd, hv⟩
    have nF := I1.hok.fresh (Nat.le_refl _)
    have I2 := inv_lam (F := ⟨"<lambda>", X.env.qual ++ "<lambda>", params, [], scope, cloFrom X.env.cells scope.names [], c'⟩) (e := body) (tk := tk) (pm := (X.mg "__name__").getD .none) (ctv := ctv) I1
    have fC : h'.objs.size ≠ c' := Nat.ne_of_gt hlt
    have pC : P ≠ c' := ne_of_none tP nC
    have nF0 : H h'.objs.size = none := I.hok.fresh (Nat.le_trans hge (Nat.le_of_lt hlt))
    have pF : P ≠ h'.objs.size := ne_of_none tP nF0
    have eL : (ps ++ #[rawInt pos.line, rawInt pos.col, .ref c']).toList = ps.toList ++ [rawInt pos.line, rawInt pos.col, .ref c'] := by simp
    have kk : ∀ b o, H b = some o → b ≠ P → upd (upd (upd H P (.tbl (ps ++ #[rawInt pos.line, rawInt pos.col, .ref c']))) c' (LamX.CodeO c' (X.env.qual ++ "<lambda>"))) h'.objs.size (FnL h'.objs.size ⟨"<lambda>", X.env.qual ++ "<lambda>", params, [], scope, cloFrom X.env.cells scope.names [], c'⟩ body) b = some o := fun b o q hb => by
      rw [upd_ne (ne_of_none q nF0), upd_ne (ne_of_none q nC), upd_ne hb]
      exact q
    refine k h'.objs.size c' _ _ I2 kk (fun b q => none3 q) ⟨_, by rw [upd_ne pF, upd_ne pC, upd_same], by rw [eL]; exact PySem.TriplesOk_snoc _ _ _ _ tok, fun p' cv q => ?_⟩ nF0 upd_same (by rw [upd_ne fC.symm, upd_same])
    rw [eL] at q
    rcases LamX.among_app _ tok q with z | z
    · obtain ⟨c0, e1, e2⟩ := tin p' cv z
      exact ⟨c0, e1, kk _ _ e2 (fun y => by rw [y, tP] at e2; exact LamX.codeO_ne ps (Option.some.inj e2).symm)⟩
    · exact ⟨c', z, by rw [upd_ne fC.symm, upd_same]⟩
end
/-- the reading of a lambda that captures nothing -/
def tLamV (P : Addr) (q : Str) (params : Arguments) (body : Expr) (scope : Scope) : TE := fun _ H Q => LamX.TabS H P q ∧ ∀ (f c' : Addr) (H1 : Hp), (∀ b o, H b = some o → b ≠ P → H1 b = some o) → (∀ b, H1 b = none → H b = none) → LamX.TabS H1 P q → H f = none →
  H1 f = some (FnL f ⟨"<lambda>", q, params, [], scope, [], c'⟩ body) → H1 c' = some (LamX.CodeO c' q) → Q (.ref f) H1
theorem pe_lamV {X : Cx} {c P : Addr} {params : Arguments} {body : Expr} {scope : Scope} {pos : Pos} (B : LamX.TabB X.base X.mg c P) (hcode : X.env.code = .ref c) (hdef : defaultsOf params X.env = ([], [])) (hfr : ∀ y ∈ scope.names, y.2 ≠ .free) :
    PE X (.Lambda params body scope pos) (tLamV P (X.env.qual ++ "<lambda>") params body scope) := by
  refine ⟨fun pins s σ H Q I h => ?_⟩
  obtain ⟨hT, h⟩ := h
  have hcl : cloFrom X.env.cells scope.names [] = [] := by
    cases e : cloFrom X.env.cells scope.names [] with
    | nil => rfl
    | cons p l =>
      have hm : p ∈ cloFrom X.env.cells scope.names [] := by rw [e]; exact List.mem_cons_self
      rcases cloFrom_mem hm with z | ⟨z, _⟩
      · cases z
      · exact absurd rfl (hfr _ z)
  refine lam_val I B hcode hT hdef (fun y hy e => absurd e (hfr y hy)) fun f c' H1 s' J k1 k2 t1 nf hf hc => ?_
  rw [hcl] at hf
  exact ⟨.ref f, H1, J, rfl, h f c' H1 k1 k2 t1 nf hf hc⟩
/-- what a lambda that captures nothing promises -/
structure LOk (P : Program) (w : World) (K : PySem.W.Frag) (mg : Str → Option Value) (base : Heap) (k : Nat) (f : Addr) (F : NF) (e : Expr) (ps : List Str) (sp : Sp) : Prop where
  len : ∀ vs H Q E, sp vs H Q E → vs.length = ps.length
  run : ∀ (A : Around) (outer : List Env) (s : Shared) (H : Hp) (us : List Value) (vs : List V) (Q : VK) (E : XK), Room k A → Env0 P w K mg base A outer s H → H f = some (FnL f F e) → H F.c = some (LamX.CodeO F.c F.qual) → Vals vs us → sp vs H Q E →
    codeAny (model P w) A (.call (.ref f) ⟨us, []⟩) (CR CX0 outer P w H s Q E) s
section
variable {P : Program} {w : World} {K : PySem.W.Frag} {mg : Str → Option Value} {base : Heap}
theorem lok_of {k : Nat} {f : Addr} {F : NF} {e : Expr} {N ps : List Str} {sp : Sp} (S : NScope N ps [] F.scope) (hcl : F.cl = []) (hb : ∀ (pm ctv : Value) (us : List Value), us.length = ps.length → bindArgs (PySem.W.kla_fn F.name F.qual F.params e F.scope F.cl pm (.ref F.c) ctv) ⟨us, []⟩ = pure (ps.zip us))
    (len : ∀ vs H Q E, sp vs H Q E → vs.length = ps.length)
    (hbody : ∀ (A : Around) (outer : List Env) (s : Shared) (H : Hp) (vs : List V) (Q : VK) (E : XK), Room k (A.deeper (envF F f s.heap.objs.size)) → sp vs H Q E → ∃ t, PE (ncx CX0 P w K mg base N F f A outer s H E) e t ∧ t (startF N vs []) H Q) :
    LOk P w K mg base (k + 1) f F e ps sp := by
  refine ⟨len, fun A outer s H us vs Q E hr e0 hf hc r hsp => ?_⟩
  have hl := len _ _ _ _ hsp
  have lim : s.heap.NoLimit := e0.mod.nolimit.keeps fun b o q => (e0.bs b o q).1
  obtain ⟨od, sl, pm, ctv, ho⟩ := fnL_at e0.hok hf
  refine PySem.W.kla_callFunE hr.depth ho rfl S.co S.gen rfl (codeO_at e0.hok hc) ?_
  rw [hb pm ctv us (by rw [← r.length]; exact hl)]
  refine wpAny_pure (wpAny_newFunctionEnv S.nocell (fun ⟨n, _⟩ hy => S.par n (List.of_mem_zip hy).1) (fun h₁ hns hsb => ⟨lim.fresh _ hsb, ?_⟩) S.kind)
  have kp : ∀ b o, s.heap.get? b = some o → h₁.get? b = some o := fun b o q => hsb.extBut b o (Nat.ne_of_lt (Heap.lt_size q)) (Heap.get?_push_of_some _ q)
  have C : CellsAt F.cl [] [] s.heap H := ⟨rfl, fun y c q => (by rw [hcl] at q; cases q), fun y z c q => (by rw [hcl] at q; cases q), fun i y q => (by simp at q)⟩
  have I : Inv (ncx CX0 P w K mg base N F f A outer s H E) [] (startF N vs []) H { s with heap := h₁, toks := s.toks + (ps.zip us).length } := inv_startN S hr.hd e0 hl r C hns kp
  obtain ⟨t, ht, hq⟩ := hbody A outer s H vs Q E (hr.deeper _) hsp
  refine PySem.W.kla_codeExpr (wpAny_mono (ht.run [] _ (startF N vs []) H Q I hq) (fun v s' q => ?_) fun e' s' q => q)
  obtain ⟨w', H', J, rv, q⟩ := q
  exact ⟨w', H', J.os, J.bare, J.base, J.hok, rv, q⟩
end
/-- f(..), f a name that holds such a lambda -/
def tCallV (P : Program) (w : World) (K : PySem.W.Frag) (mg : Str → Option Value) (base : Heap) (k i : Nat) (t : TA) : TE := fun σ H Q => ∃ (f : Addr) (F : NF) (e : Expr) (ps : List Str) (sp : Sp), σ[i]? = some (some (.ref f)) ∧ H f = some (FnL f F e) ∧ LOk P w K mg base k f F e ps sp ∧
  t σ H fun vs H1 => H1 f = some (FnL f F e) ∧ H1 F.c = some (LamX.CodeO F.c F.qual) ∧ sp vs H1 Q (fun _ _ _ => False)
theorem pe_callV {X : Cx} {i k : Nat} {x : Str} {t : TA} {e : Expr} {es : List Expr} {p pos : Pos} (hr : Room k X.A) (hx : Passes CX0 X (fun _ _ _ => False)) (hN : X.N[i]? = some x) (hv : Vis X.env.scope x) (ha : PA X (e :: es) t)
    (hd : (x == ("__debug__" : Str)) = false := by decide) (hcd : (x == ("__classdict__" : Str)) = false := by decide)
    (he : starEach (e :: es) X.env = (false, eval e X.env) :: starEach es X.env := by rfl) (hpl : (backTo pos (starEach es X.env)).any (·.1) = false := by rfl) :
    PE X (.Call (.Name x p) (e :: es) [] pos) (tCallV X.prog X.w X.K X.mg X.base k i t) := by
  refine ⟨fun pins s σ H Q I h => ?_⟩
  obtain ⟨f, F, b, ps, sp, hs, hf, L, ht⟩ := h
  refine wpAny_Call_Name_kw (thn ((pe_var (pos := p) hN hv hd hcd).run pins s σ H (fun v H1 => v = .ref f ∧ H1 = H) I ⟨.ref f, hs, rfl, rfl⟩) fun u s1 ⟨v, H1, I1, r1, q1⟩ => ?_)
  obtain ⟨ev, eH⟩ := q1
  subst ev eH
  obtain rfl : u = Value.ref f := r1
  have at_ : ∀ {H' : Hp} {s' : Shared}, Inv X pins σ H' s' → H' f = some (FnL f F b) → PySem.W.FnAt f s'.heap := fun J q => by
    obtain ⟨od, sl, pm, ctv, ho⟩ := fnL_at J.hok q
    exact ⟨_, od, _, sl, ho⟩
  refine PySem.W.callWith_F (first := []) (at_ I1 hf) (thn (ha.run pos pins s1 σ _ _ I1 ht) fun us s2 ⟨vs, H2, I2, r, h1, h2, q⟩ => ⟨at_ I2 h1, ?_⟩) he hpl
  show wpAny _ _ (call (.ref f) us) _ _ _
  refine wpAny_call (codeAny_mono (L.run X.A X.stack s2 H2 us vs Q _ hr I2.env0 h1 h2 r q) fun r' s' hq => ?_)
  cases r' with
  | error er => exact hx pins σ H2 s2 er s' I2 hq
  | ok fl =>
    cases fl with
    | ret u => exact I2.after hq
    | next => exact False.elim hq
    | brk => exact False.elim hq
    | cont => exact False.elim hq
end Lv
namespace Tw
open PySem PySem.Spec PyProof.Rows L2
section
variable {X : Cx}
end
end Tw
namespace TG
open PySem L2 Gx PySem.Spec
def blk (c : Nat) : Bool := decide (c = 32)
def stripL (l : List Nat) : List Nat := ((l.dropWhile blk).reverse.dropWhile blk).reverse
abbrev bl (n : Nat) : List Nat := List.replicate n 32
theorem dw_stay {l : List Nat} (h : ∀ a r, l = a :: r → blk a = false) : l.dropWhile blk = l := by
  cases l with
  | nil => rfl
  | cons a r => rw [List.dropWhile_cons, if_neg (by rw [h a r rfl]; exact Bool.false_ne_true)]
theorem dw_eq (p : Nat → Bool) : ∀ l : List Nat, l.dropWhile p = l.drop (l.takeWhile p).length
  | [] => rfl
  | a :: l => by
    rw [List.dropWhile_cons, List.takeWhile_cons]
    by_cases h : p a = true
    · rw [if_pos h, if_pos h, List.length_cons, List.drop_succ_cons]
      exact dw_eq p l
    · rw [if_neg h, if_neg h]
      rfl
theorem cl_strip (z : Str) : cl (Txt.stripChars z " ") = stripL (cl z) := by
  have eg : (fun c : Nat => ((" " : Str).cps.contains c)) = blk := by
    funext c
    have e : (" " : Str) = ⟨#[32]⟩ := by decide +kernel
    rw [e]
    unfold blk
    rw [Bool.eq_iff_iff]
    simp
  unfold Txt.stripChars
  rw [PyProof.Rows.stripBy_eq]
  show (Builtin.Str.strSub z _ _).cps.toList = _
  rw [StrLaws.strSub_toList]
  have eg2 : (" " : Str).cps.contains = blk := eg
  rw [eg2]
  unfold stripHi stripLo
  simp only [if_true]
  show (((cl z).drop ((cl z).takeWhile blk).length).take _) = stripL (cl z)
  have hl : z.length = (cl z).length := len_cl z
  rw [hl, ← dw_eq blk (cl z)]
  unfold stripL
  generalize hm : (cl z).dropWhile blk = m
  have hlen : m.length = (cl z).length - ((cl z).takeWhile blk).length := by rw [← hm, dw_eq, List.length_drop]
  have hd : List.drop ((cl z).takeWhile blk).length (cl z) = m := by rw [← hm, dw_eq]
  rw [dw_eq blk m.reverse]
  have e1 : (m.reverse.drop (m.reverse.takeWhile blk).length).reverse = m.take (m.length - (m.reverse.takeWhile blk).length) := by
    rw [List.reverse_drop, List.reverse_reverse, List.length_reverse]
  rw [e1]
  congr 1
  have hle : ((cl z).takeWhile blk).length ≤ (cl z).length := (List.takeWhile_sublist _).length_le
  have hle2 : (z.cps.toList.takeWhile blk).length = ((cl z).takeWhile blk).length := rfl
  omega
def ch (l : List Nat) (p : Nat) : Nat := l.getD p 32
end TG
namespace TG
open PySem L2 Gx
section
variable {rows : List (List Str)} {gap least : Int} (S : Small rows gap least) {i : Nat} {r : List Str} (hr : rows[i]? = some r)
include S hr
end
end TG
namespace TG
open PySem L2 Gx
end TG
namespace TG
open PySem L2 Gx
/-- lines that can be -/
structure LnOk (zs : List Str) : Prop where
  len : zs.length ≤ 30
  ln : ∀ z ∈ zs, z.length ≤ 200
  sg : ∀ z ∈ zs, ∀ c ∈ z.cps.toList, SgOk c
structure Consts2 (mg : Str → Option Value) : Prop where
  lines : ∃ t, mg "MOST_LINES" = some (.int 30 t)
  far : ∃ t, mg "FARTHEST" = some (.int 200 t)
abbrev iV (ns : List Int) : List V := ns.map V.int
section
variable {P : Program} {w : World} {K : PySem.W.Frag} {mg : Str → Option Value} {base : Heap} {cs : List (Addr × Addr)}
def spLines (K : PySem.W.Frag) (cs : List (Addr × Addr)) : Sp := fun vs H Q _ => ∃ (a : Addr) (zs : List Str), vs = [.ref a] ∧ Tabs cs H ∧ SqL K H a (sV zs) ∧ LnOk zs ∧ ∀ H', Ex cs H H' → Q .non H'
theorem sc_clines : FnScope ["lines", "number", "line"] ["lines"] (defScope s_check_lines) := ⟨rfl, rfl, rfl, by decide +kernel, rfl, by decide +kernel, by decide +kernel⟩
theorem ok_clines {f g : Addr} {fd fdg : FuncData} (T : Txt mg) (N : Consts2 mg) (F : Fun K "check_lines" "check_lines" s_check_lines f fd)
    (G : FnOk P w K mg base CX0 5 g fdg ["value", "most"] (spText cs)) (kp : PySem.W.keepIn K (.ref g) = true) (bd : Binds K fdg ["value", "most"] []) (mgg : mg "is_text_of_signs" = some (.ref g)) : FnOk P w K mg base CX0 6 f fd ["lines"] (spLines K cs) := by
  refine F.ok sc_clines (fun vs H Q E h => ?_) (fun cdv A outer s H vs Q E hr h => ?_)
  · obtain ⟨a, zs, rfl, _⟩ := h
    rfl
  · obtain ⟨a, zs, rfl, hT, hP, hO, k⟩ := h
    have nd := sc_clines.nd
    obtain ⟨t1, e1⟩ := N.lines
    obtain ⟨t2, e2⟩ := N.far
    refine ⟨_, pss_cons (ps_if (pt_not (pt_val (pe_callB call_isi (by rfl) T.isin (by decide +kernel) (pa_cons (pv 0) (pa_cons (pe_bltn (v := .ty "list") (by rfl) T.list (by decide +kernel) rfl) pa_nil))))) (pss_one ps_never) pss_nil)
      (pss_one (ps_for PassesOwn.never rfl (pi_enum (by rfl) T.enum (pa_cons (pv 0) pa_nil)) (pg_tup rfl (pgs_cons (pg_name (i := 1) nd rfl (.inl rfl)) (pgs_cons (pg_name (i := 2) nd rfl (.inl rfl)) pgs_nil)))
        (pss_one (ps_if (PW.pt (pw_or (pt_cmpR op_eq (pv 1) (pe_glob (v := .int 30) rfl e1 ⟨_, rfl⟩) (nomark _)) (pw_or1 (pt_not (pt_val (pe_call G hr (by rfl) mgg kp bd .nil pass0 (pa_cons (pv 2) (pa_cons (pe_glob (v := .int 200) rfl e2 ⟨_, rfl⟩) pa_nil)))))))) (pss_one ps_never) pss_nil)))), ?_⟩
    have hl : (sV zs).length = zs.length := List.length_map ..
    have := hO.len
    refine ⟨_, rfl, _, _, _, _, true, rfl, .ty _, ty_list hP, kit_ty (by decide +kernel), true, rfl, iteF ?_⟩
    refine ⟨_, rfl, a, _, rfl, hP, for_it (walk_enum (xs := sV zs)) (fun _ σ H' => Ex cs H H' ∧ σ[0]? = some (some (.ref a)) ∧ σ.length = 3) ⟨Ex.refl hT, rfl, rfl⟩ (fun i σ H' _ x => x.1.sqL hP) ?_ ?_⟩
    · rintro i x σ H3 H4 hi ⟨x3, s0, sl⟩ ⟨Tp, v, u, rfl, hn, rfl, hv, hu⟩
      cases hv
      obtain ⟨z, hz, rfl⟩ := get_map hu
      have hi2 : i < zs.length := by omega
      have hm := List.mem_of_getElem? hz
      have xl := Ex.laid (o := .tup [.int (i : Nat), .str z]) x3.tab hn
      refine ⟨Tp, _, rfl, .inl (.inl upd_same), rfl, _, _, rfl, _, _, rfl, rfl, ?_⟩
      have g1 : ((σ.set 1 (some (V.int (i : Nat)))).set 2 (some (V.str z)))[1]? = some (some (V.int (i : Nat))) := by
        rw [List.getElem?_set_ne (by decide)]
        exact List.getElem?_set_self (by omega)
      have g2 : ((σ.set 1 (some (V.int (i : Nat)))).set 2 (some (V.str z)))[2]? = some (some (V.str z)) := List.getElem?_set_self (by rw [List.length_set]; omega)
      have hz2 := hO.ln z hm
      refine ⟨_, g1, rfl, false, dF (fun z => by injection z with z; omega), iteF ⟨_, g2, z, 200, rfl, xl.tab, by omega, by omega, hO.sg z hm, fun H5 x5 => ⟨true, rfl, iteF ⟨(x3.trans xl).trans x5, ?_, ?_⟩⟩⟩⟩
      · rw [List.getElem?_set_ne (by decide), List.getElem?_set_ne (by decide)]; exact s0
      · rw [List.length_set, List.length_set]; exact sl
    · rintro σ H' ⟨x, _⟩
      exact k H' x
/-- places of a list -/
def PlOk (ns : List Int) : Prop := ∀ n ∈ ns, 0 ≤ n ∧ n ≤ 200
def spPlaces (K : PySem.W.Frag) (cs : List (Addr × Addr)) : Sp := fun vs H Q _ => ∃ (a : Addr) (ns : List Int), vs = [.ref a] ∧ Tabs cs H ∧ SqL K H a (iV ns) ∧ PlOk ns ∧ ∀ H', Ex cs H H' → Q (.bl true) H'
theorem sc_places : FnScope ["value"] ["value"] (defScope s_are_places) := ⟨rfl, rfl, rfl, by decide +kernel, rfl, by decide +kernel, by decide +kernel⟩
theorem ok_places {f c Pt g : Addr} {fd fdg : FuncData} (T : Txt mg) (N : Consts2 mg) (F : Fun K "are_places" "are_places" s_are_places f fd) (hc : fd.code = .ref c) (TB : GxR.TabB base mg c Pt) (hm : (c, Pt) ∈ cs)
    (G : FnOk P w K mg base CX0 1 g fdg ["value", "low", "high"] spWhole) (kp : PySem.W.keepIn K (.ref g) = true) (bd : Binds K fdg ["value", "low", "high"] []) (mgg : mg "is_whole" = some (.ref g)) : FnOk P w K mg base CX0 5 f fd ["value"] (spPlaces K cs) := by
  refine fun_okT F hc sc_places (fun vs H Q E h => ?_) (fun A outer s H vs Q E hr h => ?_)
  · obtain ⟨a, r, rfl, _⟩ := h
    rfl
  · obtain ⟨a, ns, rfl, hT, hS, hO, k⟩ := h
    obtain ⟨t2, e2⟩ := N.far
    refine ⟨_, pss_one (ps_ret (pe_and (pe_callB call_isi (by rfl) T.isin (by decide +kernel) (pa_cons (pv 0) (pa_cons (pe_bltn (v := .ty "list") (by rfl) T.list (by decide +kernel) rfl) pa_nil)))
      (pe_one (pe_allG (k := 1) (P := Pt) hr (by rfl) T.all TB rfl ⟨rfl, rfl, by decide +kernel, by decide +kernel, rfl, rfl⟩ (pi_list (pv 0))
        (fun A' code s4 H4 fp hr' => pe_call G hr' (by rfl) mgg kp bd .nil pass0 (pa_cons (pv 0) (pa_cons pe_int (pa_cons (pe_glob (v := .int 200) rfl e2 ⟨_, rfl⟩) pa_nil)))) (fun _ => rfl))))), ?_⟩
    refine ⟨_, rfl, _, _, _, _, true, rfl, .ty _, ty_list hS, kit_ty (by decide +kernel), true, rfl, iteT ?_⟩
    refine ⟨_, rfl, a, rfl, ⟨_, hS⟩, hT _ hm, fun H2 hH2 => ?_⟩
    have x2 := Ex.tabbed hT hm hH2
    refine all_by (w := walk_list (a := a) (xs := iV ns)) (fun _ => true) (fun _ H' => Ex cs H H') x2 (fun i H' _ x => x.sqL hS) (fun i v H3 H4 hi x y Z hZ => ?_) (fun H3 x _ => k _ x) (fun i H3 _ e _ => by cases e)
    obtain ⟨rfl, hv⟩ := y
    obtain ⟨n, hn, rfl⟩ := get_map hv
    obtain ⟨c1, c2⟩ := hO n (List.mem_of_getElem? hn)
    exact ⟨_, rfl, n, 0, 200, rfl, c1, c2, hZ _ x⟩
/-- left ends that can be -/
structure EndsOk (ns : List Int) : Prop where
  pl : PlOk ns
  hd : ns.head? = some 0
  len : ns.length ≤ 6
  up : ns.Pairwise (· ≤ ·)
theorem sorted_self {a b : List Int} (h : a.Perm b) (ha : a.Pairwise (· ≤ ·)) (hb : b.Pairwise (· ≤ ·)) : a = b :=
  h.eq_of_pairwise (fun x y _ _ h1 h2 => Int.le_antisymm h1 h2) ha hb
abbrev iD (ns : List Int) : PyData := .list (ns.map PyData.int)
theorem shaped_iD (ns : List Int) : SeqAt.shaped (iD ns) = true := by
  unfold SeqAt.shaped
  simp only [PyData.canLay0, canAll_ints, Bool.true_and, PyData.depth, depthAll_ints]
  decide
theorem eqv_iD (ns : List Int) : PyData.eqv (iD ns) (iD ns) = true := SeqAt.eqv_refl _ (by simp only [PyData.canLay0, canAll_ints])
theorem dp_iD {H : Hp} {a : Addr} {ns : List Int} (h : SqL K H a (iV ns)) : Dp K H (.ref a) (iD ns) := .lst h (dp_ints ns)
theorem cut_up {xs : List V} {k : Nat} : cutV xs none (some (k : Int)) = xs.take k := by
  unfold cutV
  rw [HT.sIx_nat, HT.sIx_none, List.drop_zero, Nat.sub_zero]
  by_cases h : k ≤ xs.length
  · rw [Nat.min_eq_left h]
  · rw [Nat.min_eq_right (by omega), List.take_of_length_le (Nat.le_refl _), List.take_of_length_le (by omega)]
theorem dp_eq {H : Hp} {x y : V} {d : PyData} {Z : VK} (h1 : Dp K H x d) (h2 : Dp K H y d) (hs : SeqAt.shaped d = true) (he : PyData.eqv d d = true) (z : Z (.bl true) H) : rEqD K x y H Z :=
  ⟨d, d, h1, h2, hs, hs, by rw [he]; exact z⟩
def spEnds (K : PySem.W.Frag) (cs : List (Addr × Addr)) : Sp := fun vs H Q _ => ∃ (a : Addr) (ns : List Int), vs = [.ref a] ∧ Tabs cs H ∧ SqL K H a (iV ns) ∧ EndsOk ns ∧ ∀ H', Ex cs H H' → Q (.bl true) H'
theorem sc_lends : FnScope ["value"] ["value"] (defScope s_are_left_ends) := ⟨rfl, rfl, rfl, by decide +kernel, rfl, by decide +kernel, by decide +kernel⟩
theorem ok_lends {f g : Addr} {fd fdg : FuncData} (hs : mg "sorted" = none) (F : Fun K "are_left_ends" "are_left_ends" s_are_left_ends f fd)
    (G : FnOk P w K mg base CX0 5 g fdg ["value"] (spPlaces K cs)) (kp : PySem.W.keepIn K (.ref g) = true) (bd : Binds K fdg ["value"] []) (mgg : mg "are_places" = some (.ref g)) : FnOk P w K mg base CX0 6 f fd ["value"] (spEnds K cs) := by
  refine F.ok sc_lends (fun vs H Q E h => ?_) (fun cdv A outer s H vs Q E hr h => ?_)
  · obtain ⟨a, zs, rfl, _⟩ := h
    rfl
  · obtain ⟨a, ns, rfl, hT, hS, hO, k⟩ := h
    have hu := hr.units
    refine ⟨_, pss_one (ps_ret (pe_and (pe_call G hr (by rfl) mgg kp bd .nil pass0 (pa_cons (pv 0) pa_nil))
      (pe_and (pe_cmpR (op_eqD hu) (pe_slice sl_list (pv 0) po_none (po_some pe_int)) (pe_lst (pa_cons pe_int pa_nil)) (nomark _))
        (pe_one (pe_cmpR (op_eqD hu) (pv 0) (pe_callB cr_sorted (by rfl) hs (by decide +kernel) (pa_cons (pv 0) pa_nil)) (nomark _)))))), ?_⟩
    refine ⟨_, rfl, a, ns, rfl, hT, hS, hO.pl, fun H1 x1 => ⟨true, rfl, iteT ?_⟩⟩
    simp only [tNoPart]
    have hS1 := x1.sqL hS
    refine ⟨_, rfl, 1, rfl, a, _, rfl, hS1, fun p np => ?_⟩
    have x2 := x1.trans (Ex.laid (o := .lst (cutV (iV ns) none (some 1))) x1.tab np)
    refine ⟨by decide, fun q nq => ?_⟩
    have x3 := x2.trans (Ex.laid (o := .lst [.int 0]) x2.tab nq)
    have e1 : cutV (iV ns) none (some 1) = iV [0] := by
      rw [show (some 1 : Option Int) = some ((1 : Nat) : Int) from rfl, cut_up]
      have hh := hO.hd
      cases ns with
      | nil => cases hh
      | cons n ns =>
        cases hh
        rfl
    have hp : upd (upd H1 p (.lst (cutV (iV ns) none (some 1)))) q (.lst [.int 0]) p = some (.lst (iV [0])) := by
      rw [upd_ne (fun z => by rw [z, upd_same] at nq; cases nq), upd_same, e1]
    refine dp_eq (d := iD [0]) (dp_iD (SqL.of hp)) (dp_iD (SqL.of upd_same)) (shaped_iD _) (eqv_iD _) ⟨true, rfl, iteT ?_⟩
    refine ⟨_, rfl, _, rfl, a, ns, rfl, x3.sqL hS, by have := hO.len; omega, fun ns' r hp1 hp2 nr => ?_⟩
    have e2 := sorted_self hp1 hp2 hO.up
    subst e2
    have x4 := x3.trans (Ex.laid (o := .lst (iV ns')) x3.tab nr)
    exact dp_eq (d := iD ns') (dp_iD (x4.sqL hS)) (dp_iD (SqL.of upd_same)) (shaped_iD _) (eqv_iD _) (k _ x4)
end
end TG
namespace TG
open PySem PySem.Spec PyProof.Rows L2 NdefX GenW Gx Lv
section
variable {P : Program} {w : World} {K : PySem.W.Frag} {mg : Str → Option Value} {base : Heap} {cs : List (Addr × Addr)}
def spLists (P : Program) (w : World) (K : PySem.W.Frag) (mg : Str → Option Value) (base : Heap) (cs : List (Addr × Addr)) (kl : Nat) : Sp := fun vs H Q _ => ∃ (t f : Addr) (es : List Addr) (n : Nat) (F : NF) (e : Expr) (ps : List Str) (sp : Sp),
  vs = [.ref t, .int (n : Nat), .ref f] ∧ Tabs cs H ∧ SqL K H t (es.map V.ref) ∧ es.length = n ∧ n ≤ 30 ∧ H f = some (FnL f F e) ∧ H F.c = some (LamX.CodeO F.c F.qual) ∧ LOk P w K mg base kl f F e ps sp ∧
  (∀ (i : Nat) (x : Addr) (H1 : Hp) (Z : VK), es[i]? = some x → Ex cs H H1 → (∀ H2, Ex cs H1 H2 → Z (.bl true) H2) → sp [.int (i : Nat), .ref x] H1 Z (fun _ _ _ => False)) ∧ ∀ H', Ex cs H H' → Q .non H'
theorem sc_clists : FnScope ["told", "many", "fits", "number"] ["told", "many", "fits"] (defScope s_check_lists) := ⟨rfl, rfl, rfl, by decide +kernel, rfl, by decide +kernel, by decide +kernel⟩
theorem ex_fn {H H' : Hp} {f : Addr} {F : NF} {e : Expr} (x : Ex cs H H') (h : H f = some (FnL f F e)) : H' f = some (FnL f F e) := x.ext _ _ h fun ps => fnL_ne ps
theorem ex_code {H H' : Hp} {c : Addr} {q : Str} (x : Ex cs H H') (h : H c = some (LamX.CodeO c q)) : H' c = some (LamX.CodeO c q) := x.ext _ _ h fun ps => LamX.codeO_ne ps
theorem ok_clists {f : Addr} {fd : FuncData} {kl : Nat} (T : Txt mg) (F : Fun K "check_lists" "check_lists" s_check_lists f fd) : FnOk P w K mg base CX0 (kl + 1) f fd ["told", "many", "fits"] (spLists P w K mg base cs kl) := by
  refine F.ok sc_clists (fun vs H Q E h => ?_) (fun cdv A outer s H vs Q E hr h => ?_)
  · obtain ⟨t, f, es, n, F, e, ps, sp, rfl, _⟩ := h
    rfl
  · obtain ⟨t, f, es, n, F, e, ps, sp, rfl, hT, hS, hn, hn2, hf, hc, L, hsp, k⟩ := h
    have nd := sc_clists.nd
    refine ⟨_, pss_cons (ps_if (pt_not (pt_val (pe_callB call_isi (by rfl) T.isin (by decide +kernel) (pa_cons (pv 0) (pa_cons (pe_bltn (v := .ty "list") (by rfl) T.list (by decide +kernel) rfl) pa_nil))))) (pss_one ps_never) pss_nil)
      (pss_cons (ps_for PassesOwn.never rfl (pi_range1 (by rfl) T.range (pa_cons (pv 1) pa_nil)) (pg_name (i := 3) nd rfl (.inl rfl))
        (pss_one (ps_if (PW.pt (pw_or (pt_cmpR op_ge (pv 3) (pe_callB call_len_seq (by rfl) T.len PySem.boot_len (pa_cons (pv 0) pa_nil)) (nomark _))
          (pw_or1 (pt_not (pt_val (pe_callV (k := kl) (i := 2) hr pass0 rfl (by first | exact Or.inl rfl | exact Or.inr (Or.inl rfl) | exact Or.inr (Or.inr rfl)) (pa_cons (pv 3) (pa_cons (pe_ix ix_list (pv 0) (pv 3) (fun _ _ => rfl)) pa_nil)))))))) (pss_one ps_never) pss_nil)))
      (pss_one (ps_if (pt_cmpR op_gt (pe_callB call_len_seq (by rfl) T.len PySem.boot_len (pa_cons (pv 0) pa_nil)) (pv 1) (nomark _)) (pss_one ps_never) pss_nil))), ?_⟩
    have hl : (es.map V.ref).length = es.length := List.length_map ..
    refine ⟨_, rfl, _, _, _, _, true, rfl, .ty _, ty_list hS, kit_ty (by decide +kernel), true, rfl, iteF ?_⟩
    refine ⟨_, rfl, _, rfl, by omega, by omega, for_range (n := (n : Int).toNat) (fun _ σ H' => Ex cs H H' ∧ ∃ c, σ = [some (.ref t), some (.int (n : Nat)), some (.ref f), c]) ⟨Ex.refl hT, _, rfl⟩ ?_ ?_⟩
    · rintro i σ H1 hi ⟨x1, c, rfl⟩
      have hi2 : i < es.length := by omega
      obtain ⟨x, hx⟩ := getP hi2
      refine ⟨_, rfl, _, rfl, t, _, rfl, .inl (x1.sqL hS), _, _, rfl, rfl, false, dF (by omega), iteF ?_⟩
      refine ⟨f, F, e, ps, sp, rfl, ex_fn x1 hf, L, _, rfl, _, rfl, _, rfl, t, _, _, .ref x, rfl, rfl, x1.sqL hS, by rw [Int.zero_add]; exact atI_nat (by rw [List.getElem?_map, hx]; rfl), ex_fn x1 hf, ex_code x1 hc, ?_⟩
      rw [Int.zero_add]
      refine hsp i x H1 _ hx x1 fun H2 x2 => ⟨true, rfl, iteF ⟨x1.trans x2, _, rfl⟩⟩
    · rintro σ H' ⟨x, c, rfl⟩
      refine ⟨_, rfl, t, _, rfl, .inl (x.sqL hS), _, rfl, _, _, rfl, rfl, false, dF (by omega), iteF (k _ x)⟩
end
end TG
namespace TG
open PySem PySem.Spec PyProof.Rows L2 NdefX GenW Gx Lv
/-- where each piece ends -/
def behindR (z : Str) (ns : List Int) : List Int := ns.tail ++ [((z.length : Nat) : Int)]
def cutAt (z : Str) (ns : List Int) (i : Nat) : Str := Txt.stripChars (cutS z (some (ns.getD i 0)) (some ((behindR z ns).getD i 0))) " "
def cutR (z : Str) (ns : List Int) : List Str := (List.range ns.length).map (cutAt z ns)
theorem cutS_len (z : Str) (lo hi : Option Int) : (cutS z lo hi).length ≤ z.length := by
  have : (cutS z lo hi).cps.toList.length ≤ z.cps.toList.length := by
    unfold cutS
    simp only [List.length_take, List.length_drop, Array.length_toList]
    omega
  simpa [Str.length] using this
theorem cut_tail {xs : List V} : cutV xs (some 1) none = xs.tail := by
  unfold cutV
  rw [HT.sIx_none, show (some (1 : Int)) = some ((1 : Nat) : Int) from rfl, HT.sIx_nat]
  cases xs with
  | nil => rfl
  | cons x xs => simp
section
variable {P : Program} {w : World} {K : PySem.W.Frag} {mg : Str → Option Value} {base : Heap} {cs : List (Addr × Addr)}
def spCut (K : PySem.W.Frag) (cs : List (Addr × Addr)) : Sp := fun vs H Q _ => ∃ (z : Str) (a : Addr) (ns : List Int), vs = [.str z, .ref a] ∧ Tabs cs H ∧ SqL K H a (iV ns) ∧ z.length ≤ 200 ∧ 1 ≤ ns.length ∧ ns.length ≤ 6 ∧
  ∀ (r : Addr) (H' : Hp), Ex cs H H' → H r = none → H' r = some (.tup (sV (cutR z ns))) → Q (.ref r) H'
abbrev nmCut : List Str := ["line", "ends", "behind", "begin", "end"]
theorem sc_cut : FnScope nmCut ["line", "ends"] (defScope s_cut) := ⟨rfl, rfl, rfl, by decide +kernel, rfl, by decide +kernel, by decide +kernel⟩
theorem ok_cut {f : Addr} {fd : FuncData} (T : Txt mg) (hz : mg "zip" = none) (F : Fun K "cut" "cut" s_cut f fd) : FnOk P w K mg base CX0 1 f fd ["line", "ends"] (spCut K cs) := by
  refine F.ok sc_cut (fun vs H Q E h => ?_) (fun cdv A outer s H vs Q E hr h => ?_)
  · obtain ⟨z, a, ns, rfl, _⟩ := h
    rfl
  · obtain ⟨z, a, ns, rfl, hT, hS, hz2, h1, h6, k⟩ := h
    have nd := sc_cut.nd
    have szl : (1000 : Nat) < sizeLine := by decide
    refine ⟨_, pss_cons (ps_set (i := 2) nd rfl (.inl rfl) (pe_op op_cat (pe_slice sl_list (pv 1) (po_some pe_int) po_none) (pe_lst (pa_cons (pe_callB call_len_str (by rfl) T.len PySem.boot_len (pa_cons (pv 0) pa_nil)) pa_nil))))
      (pss_one (ps_ret (pe_callTy call_tuple_of (by rfl) T.tuple (by decide +kernel) (pa_cons (pe_lc (own := [("begin", 3), ("end", 4)]) (g := gTup K 2 (gCons (gName 3) (gCons (gName 4) gNil))) (tt := tYes) rfl nd (pi_zip (by rfl) hz (pa_cons (pv 1) (pa_cons (pv 2) pa_nil))) (blkOk_by (own := [("begin", 3), ("end", 4)]) (N := nmCut) (sc := defScope s_cut) (by decide +kernel))
        (fun _ _ _ _ _ => pg_tup rfl (pgs_cons (pg_name (i := 3) nd rfl (.inl rfl) (.inr rfl)) (pgs_cons (pg_name (i := 4) nd rfl (.inl rfl) (.inr rfl)) pgs_nil))) (fun _ _ _ _ _ => pts_nil)
        (fun s1 H1 C1 cl1 fp1 => pe_m1 PySem.F.slot_str_strip PySem.F.type_str_strip mt_stripChars (pe_slice (r := rSlS) sl_str (pv 0) (po_some (pv 3)) (po_some (pv 4))) pe_str)) pa_nil)))), ?_⟩
    refine ⟨_, rfl, 1, rfl, ?_⟩
    simp only [tNoPart]
    refine ⟨a, _, rfl, hS, fun p np => ?_⟩
    rw [cut_tail]
    have x1 := Ex.laid (o := .lst (iV ns).tail) hT np
    refine ⟨_, rfl, z, rfl, by omega, by show 1 ≤ sizeLine; decide, fun q nq => ?_⟩
    have x2 := x1.trans (Ex.laid (o := .lst [.int (z.length : Nat)]) x1.tab nq)
    have npq : p ≠ q := fun e => by rw [← e, upd_same] at nq; cases nq
    refine ⟨p, q, (iV ns).tail, [.int (z.length : Nat)], rfl, rfl, by rw [upd_ne npq, upd_same], upd_same, by simp; omega, fun b nb => ?_⟩
    have eb : (iV ns).tail ++ [V.int ((z.length : Nat) : Int)] = iV (behindR z ns) := by
      unfold behindR
      rw [iV, iV, List.map_append, List.map_tail]
      rfl
    rw [eb]
    have x3 := x2.trans (Ex.laid (o := .lst (iV (behindR z ns))) x2.tab nb)
    generalize hH : upd (upd (upd H p (.lst (iV ns).tail)) q (.lst [.int (z.length : Nat)])) b (.lst (iV (behindR z ns))) = H3 at x3 ⊢
    have hb3 : H3 b = some (.lst (iV (behindR z ns))) := by rw [← hH, upd_same]
    have lb : (behindR z ns).length = ns.length := by
      unfold behindR
      rw [List.length_append, List.length_tail]
      simp
      omega
    refine ⟨_, rfl, _, rfl, a, b, _, _, rfl, x3.sqL hS, SqL.of hb3, fun D nD => lc_it (walk_zip (xs := iV ns) (ys := iV (behindR z ns)) (n := ns.length) (by rw [List.length_map, List.length_map, lb, Nat.min_self])) (fun i H' => Ex cs H3 H' ∧ H' D = some (.lst (sV ((List.range i).map (cutAt z ns)))))
      ⟨Ex.laid x3.tab nD, upd_same⟩ (fun i H' _ x => ⟨x.1.sqL (x3.sqL hS), SqL.of (x.1.lst hb3)⟩) ?_ ?_⟩
    · rintro i v H4 H5 hi ⟨x4, hD4⟩ ⟨Tp, v1, u, rfl, hn, rfl, hv, hu⟩
      obtain ⟨n, hn1, rfl⟩ := get_map hv
      obtain ⟨m, hm1, rfl⟩ := get_map hu
      have x5 := Ex.laid (o := .tup [.int n, .int m]) x4.tab hn
      generalize hH5 : upd H4 Tp (.tup [.int n, .int m]) = H5 at x5 ⊢
      have hTp : H5 Tp = some (.tup [.int n, .int m]) := by rw [← hH5, upd_same]
      have x45 := x4.trans x5
      have hD5 := x5.lst hD4
      have hc := cutS_len z (some n) (some m)
      refine ⟨Tp, _, rfl, .inl (.inl hTp), rfl, _, _, rfl, _, _, rfl, rfl, rfl, _, rfl, _, rfl, n, rfl, _, rfl, m, rfl, z, rfl, by omega, ⟨_, rfl⟩, _, _, rfl, rfl, by omega, ?_⟩
      refine ⟨_, hD5, by rw [List.length_map, List.length_map, List.length_range]; omega, ex_new x3.tab x45 nD, ?_⟩
      have e : Txt.stripChars (cutS z (some n) (some m)) " " = cutAt z ns i := by
        unfold cutAt
        rw [List.getD_eq_getElem?_getD, hn1, List.getD_eq_getElem?_getD, hm1]
        rfl
      rw [upd_same, List.range_succ, List.map_append, e]
      simp [sV]
    · rintro H4 ⟨x4, hD4⟩
      refine ⟨D, _, rfl, .inl ⟨SqL.of hD4, fun t nt => ?_⟩⟩
      have x5 := (x3.trans x4).trans (Ex.laid (o := .tup (sV (cutR z ns))) x4.tab nt)
      exact k t _ x5 ((x3.trans x4).old _ nt) upd_same
end
end TG
namespace TG
open PySem PySem.Spec PyProof.Rows L2 NdefX GenW Gx Lv
abbrev LamT := Arguments × Expr × Scope
def sc00 : Scope := { kind := .function, names := [], isGenerator := false, isCoroutine := false }
def lamIn : List Stmt → LamT
  | [_, .Expr (.Call _ [_, _, .Lambda p b sc _] _ _) _, _] => (p, b, sc)
  | _ => ({ posonlyargs := [], args := [], vararg := none, kwonlyargs := [], kw_defaults := [], kwarg := none, defaults := [] }, .Name "x" ⟨0, 0, 0, 0⟩, sc00)
abbrev rbL : LamT := lamIn (defBody s_read_back)
abbrev rbQ : Str := ("read_back" : Str) ++ ".<locals>." ++ "<lambda>"
section
variable {P : Program} {w : World} {K : PySem.W.Frag} {mg : Str → Option Value} {base : Heap} {cs : List (Addr × Addr)}
theorem sc_rbL : NScope ["line", "places"] ["line", "places"] [] rbL.2.2 := nscope_by (by decide +kernel)
def spEnds2 (K : PySem.W.Frag) (cs : List (Addr × Addr)) : Sp := fun vs H Q _ => ∃ (i : V) (a : Addr) (ns : List Int), vs = [i, .ref a] ∧ Tabs cs H ∧ SqL K H a (iV ns) ∧ EndsOk ns ∧ ∀ H', Ex cs H H' → Q (.bl true) H'
theorem lok_rb {q : Str} {c' f g : Addr} {fdg : FuncData} (G : FnOk P w K mg base CX0 6 g fdg ["value"] (spEnds K cs)) (kp : PySem.W.keepIn K (.ref g) = true) (bd : Binds K fdg ["value"] []) (mgg : mg "are_left_ends" = some (.ref g)) :
    LOk P w K mg base 7 f ⟨"<lambda>", q, rbL.1, [], rbL.2.2, [], c'⟩ rbL.2.1 ["line", "places"] (spEnds2 K cs) := by
  refine lok_of (N := ["line", "places"]) sc_rbL rfl (fun pm ctv us hl => ?_) (fun vs H Q E h => ?_) fun A outer s H vs Q E hr h => ?_
  · match us, hl with
    | [_, _], _ => rfl
  · obtain ⟨i, a, ns, rfl, _⟩ := h
    rfl
  · obtain ⟨i, a, ns, rfl, hT, hS, hO, k⟩ := h
    refine ⟨_, pe_call G hr (by rfl) mgg kp bd .nil pass0 (pa_cons (pv 1) pa_nil), ?_⟩
    exact ⟨_, rfl, a, ns, rfl, hT, hS, hO, k⟩
end
end TG
namespace TG
open PySem PySem.Spec PyProof.Rows L2 NdefX GenW Gx Lv
section
variable {P : Program} {w : World} {K : PySem.W.Frag} {mg : Str → Option Value} {base : Heap} {cs : List (Addr × Addr)}
/-- the lambdas' table at p is no table of cs -/
abbrev Apart (cs : List (Addr × Addr)) (p : Addr) : Prop := ∀ q ∈ cs, q.2 ≠ p
theorem tabS_ex {H H' : Hp} {p : Addr} {q : Str} (x : Ex cs H H') (ne : Apart cs p) (t : LamX.TabS H p q) : LamX.TabS H' p q := by
  obtain ⟨ps, h1, h2, h3⟩ := t
  refine ⟨ps, x.oth _ _ h1 ne, h2, fun pos cv hc => ?_⟩
  obtain ⟨c, e1, e2⟩ := h3 pos cv hc
  exact ⟨c, e1, ex_code x e2⟩
theorem tabG_of {H : Hp} {p : Addr} {q : Str} (t : LamX.TabS H p q) : GxR.TabG H p := by
  obtain ⟨ps, h1, h2, _⟩ := t
  exact ⟨ps, h1, h2⟩
theorem tabs_more {H : Hp} {c p : Addr} {q : Str} (T : Tabs cs H) (t : LamX.TabS H p q) : Tabs ((c, p) :: cs) H := fun r hr => by
  rcases List.mem_cons.mp hr with z | z
  · rw [z]; exact tabG_of t
  · exact T r z
theorem tabs_less {H : Hp} {c p : Addr} (T : Tabs ((c, p) :: cs) H) : Tabs cs H := fun r hr => T r (List.mem_cons_of_mem _ hr)
/-- what the program's functions do to the heap, told with the lambdas' table beside -/
theorem _root_.Gx.Ex.lift {H H' : Hp} {c p : Addr} {q : Str} (x : Ex cs H H') (ne : Apart cs p) (t : LamX.TabS H p q) : Ex ((c, p) :: cs) H H' :=
  ⟨x.ext, tabs_more x.tab (tabS_ex x ne t), x.old, fun b o h m => x.oth b o h fun r hr => m r (List.mem_cons_of_mem _ hr)⟩
theorem ex_lam {H H' : Hp} {c p : Addr} {q : Str} (T : Tabs cs H) (ne : Apart cs p) (t : LamX.TabS H p q) (k1 : ∀ b o, H b = some o → b ≠ p → H' b = some o) (k2 : ∀ b, H' b = none → H b = none) (t' : LamX.TabS H' p q) : Ex ((c, p) :: cs) H H' := by
  obtain ⟨ps, h1, _⟩ := t
  refine ⟨fun b o h n => k1 b o h fun z => ?_, tabs_more (fun r hr => ?_) t', k2, fun b o h m => k1 b o h fun z => m (c, p) List.mem_cons_self z.symm⟩
  · rw [z, h1] at h
    cases h
    exact n ps rfl
  · obtain ⟨ps2, h3, h4⟩ := T r hr
    exact ⟨ps2, k1 _ _ h3 (ne r hr), h4⟩
def spBack (K : PySem.W.Frag) (cs : List (Addr × Addr)) (c p : Addr) : Sp := fun vs H Q _ => ∃ (a t : Addr) (es : List Addr) (zs : List Str) (nss : List (List Int)), vs = [.ref a, .ref t] ∧ Tabs cs H ∧ LamX.TabS H p rbQ ∧ SqL K H a (sV zs) ∧ LnOk zs ∧ SqL K H t (es.map V.ref) ∧ es.length = zs.length ∧ nss.length = zs.length ∧
  (∀ (i : Nat) (e : Addr) (ns : List Int), es[i]? = some e → nss[i]? = some ns → SqL K H e (iV ns) ∧ EndsOk ns ∧ 1 ≤ ns.length) ∧
  ∀ (r : Addr) (ps : List Addr) (H' : Hp), Ex ((c, p) :: cs) H H' → LamX.TabS H' p rbQ → H r = none → H' r = some (.lst (ps.map V.ref)) → ps.length = zs.length → (∀ (i : Nat) (q : Addr) (z : Str) (ns : List Int), ps[i]? = some q → zs[i]? = some z → nss[i]? = some ns → H' q = some (.tup (sV (cutR z ns)))) → Q (.ref r) H'
abbrev nmBack : List Str := ["lines", "told", "line", "ends"]
theorem sc_back : FnScope nmBack ["lines", "told"] (defScope s_read_back) := ⟨rfl, rfl, rfl, by decide +kernel, rfl, by decide +kernel, by decide +kernel⟩
theorem ok_back {f c p g1 g2 g3 g4 : Addr} {fd fd1 fd2 fd3 fd4 : FuncData} (T : Txt mg) (hz : mg "zip" = none) (ne : Apart cs p) (F : Fun K "read_back" "read_back" s_read_back f fd) (hc : fd.code = .ref c) (TB : LamX.TabB base mg c p)
    (G1 : FnOk P w K mg base CX0 6 g1 fd1 ["lines"] (spLines K cs)) (kp1 : PySem.W.keepIn K (.ref g1) = true) (bd1 : Binds K fd1 ["lines"] []) (m1 : mg "check_lines" = some (.ref g1))
    (G2 : FnOk P w K mg base CX0 8 g2 fd2 ["told", "many", "fits"] (spLists P w K mg base cs 7)) (kp2 : PySem.W.keepIn K (.ref g2) = true) (bd2 : Binds K fd2 ["told", "many", "fits"] []) (m2 : mg "check_lists" = some (.ref g2))
    (G3 : FnOk P w K mg base CX0 1 g3 fd3 ["line", "ends"] (spCut K cs)) (kp3 : PySem.W.keepIn K (.ref g3) = true) (bd3 : Binds K fd3 ["line", "ends"] []) (m3 : mg "cut" = some (.ref g3))
    (G4 : FnOk P w K mg base CX0 6 g4 fd4 ["value"] (spEnds K cs)) (kp4 : PySem.W.keepIn K (.ref g4) = true) (bd4 : Binds K fd4 ["value"] []) (m4 : mg "are_left_ends" = some (.ref g4)) : FnOk P w K mg base CX0 9 f fd ["lines", "told"] (spBack K cs c p) := by
  refine fun_okT F hc sc_back (fun vs H Q E h => ?_) (fun A outer s H vs Q E hr h => ?_)
  · obtain ⟨a, t, es, zs, nss, rfl, _⟩ := h
    rfl
  · obtain ⟨a, t, es, zs, nss, rfl, hT, hL, hZ, hO, hS, hn, hn2, hE, k⟩ := h
    have nd := sc_back.nd
    have szl : (1000 : Nat) < sizeLine := by decide
    have hr1 : Room 1 _ := hr.mono (by decide)
    have hr6 : Room 6 _ := hr.mono (by decide)
    refine ⟨_, pss_cons (ps_expr (pe_call G1 hr6 (by rfl) m1 kp1 bd1 .nil pass0 (pa_cons (pv 0) pa_nil)))
      (pss_cons (ps_expr (pe_call G2 hr (by rfl) m2 kp2 bd2 .nil pass0 (pa_cons (pv 1) (pa_cons (pe_callB call_len_seq (by rfl) T.len PySem.boot_len (pa_cons (pv 0) pa_nil)) (pa_cons (pe_lamV TB rfl rfl (by decide +kernel)) pa_nil)))))
      (pss_one (ps_ret (pe_lc (own := [("line", 2), ("ends", 3)]) (g := gTup K 2 (gCons (gName 2) (gCons (gName 3) gNil))) (tt := tYes) rfl nd (pi_zip (by rfl) hz (pa_cons (pv 0) (pa_cons (pv 1) pa_nil))) (blkOk_by (own := [("line", 2), ("ends", 3)]) (N := nmBack) (sc := defScope s_read_back) (by decide +kernel))
        (fun _ _ _ _ _ => pg_tup rfl (pgs_cons (pg_name (i := 2) nd rfl (.inl rfl) (.inr rfl)) (pgs_cons (pg_name (i := 3) nd rfl (.inl rfl) (.inr rfl)) pgs_nil))) (fun _ _ _ _ _ => pts_nil)
        (fun s1 H1 C1 cl1 fp1 => pe_call G3 hr1 (by rfl) m3 kp3 bd3 .nil pass0 (pa_cons (pv 2) (pa_cons (pv 3) pa_nil))))))), ?_⟩
    have hl := hO.len
    refine ⟨_, rfl, a, zs, rfl, hT, hZ, hO, fun H1 x1 => ?_⟩
    have t1 := tabS_ex x1 ne hL
    have y1 := x1.lift (c := c) ne hL
    refine ⟨_, rfl, _, rfl, a, _, rfl, .inl (x1.sqL hZ), t1, fun fa c' H2 k1 k2 t2 nf hf hcc => ?_⟩
    have y2 := ex_lam (c := c) x1.tab ne t1 k1 k2 t2
    have y12 := y1.trans y2
    refine ⟨t, fa, es, zs.length, _, _, _, _, by rw [List.length_map]; rfl, tabs_less y2.tab, y12.sqL hS, hn, hl, hf, hcc, lok_rb G4 kp4 bd4 m4, fun i e H3 Z he x3 hZ3 => ?_, fun H3 x3 => ?_⟩
    · obtain ⟨ns, hns⟩ := getP (xs := nss) (i := i) (by have := (List.getElem?_eq_some_iff.mp he).1; omega)
      obtain ⟨e1, e2, _⟩ := hE i e ns he hns
      exact ⟨_, e, ns, rfl, x3.tab, x3.sqL (y12.sqL e1), e2, hZ3⟩
    · have t3 := tabS_ex x3 ne t2
      have y3 := y12.trans (x3.lift ne t2)
      refine ⟨_, rfl, _, rfl, a, t, _, _, rfl, y3.sqL hZ, y3.sqL hS, fun D nD => lc_it (walk_zip (xs := sV zs) (ys := es.map V.ref) (n := zs.length) (by rw [List.length_map, List.length_map, hn, Nat.min_self])) (fun i H' => Ex cs H3 H' ∧ ∃ ps : List Addr, H' D = some (.lst (ps.map V.ref)) ∧ ps.length = i ∧ ∀ (j : Nat) (q : Addr) (z : Str) (ns : List Int), ps[j]? = some q → zs[j]? = some z → nss[j]? = some ns → H' q = some (.tup (sV (cutR z ns))))
        ⟨Ex.laid x3.tab nD, [], upd_same, rfl, fun j q z ns h => by cases h⟩ (fun i H' _ x => ⟨x.1.sqL (y3.sqL hZ), x.1.sqL (y3.sqL hS)⟩) ?_ ?_⟩
      · rintro i v H4 H5 hi ⟨x4, ps, hD4, hpl, hps⟩ ⟨Tp, v1, u, rfl, hnw, rfl, hv, hu⟩
        obtain ⟨z, hz1, rfl⟩ := get_map hv
        obtain ⟨e, he, rfl⟩ := get_map hu
        obtain ⟨ns, hns⟩ := getP (xs := nss) (i := i) (by omega)
        obtain ⟨e1, e2, e3⟩ := hE i e ns he hns
        have x5 := Ex.laid (o := .tup [.str z, .ref e]) x4.tab hnw
        generalize hH5 : upd H4 Tp (.tup [.str z, .ref e]) = H5 at x5 ⊢
        have hTp : H5 Tp = some (.tup [.str z, .ref e]) := by rw [← hH5, upd_same]
        have x45 := x4.trans x5
        have hD5 := x5.lst hD4
        refine ⟨Tp, _, rfl, .inl (.inl hTp), rfl, _, _, rfl, _, _, rfl, rfl, rfl, _, rfl, _, rfl, z, e, ns, rfl, x5.tab, x45.sqL (y3.sqL e1), hO.ln z (List.mem_of_getElem? hz1), e3, e2.len, fun r H6 x6 nr hr6 => ?_⟩
        have hD6 := x6.lst hD5
        have nDr : D ≠ r := fun e => by rw [e, nr] at hD5; cases hD5
        refine ⟨_, hD6, by rw [List.length_map]; omega, ex_new x3.tab (x45.trans x6) nD, ps ++ [r], ?_, by rw [List.length_append, hpl]; rfl, fun j q z2 ns2 h1 h2 h3 => ?_⟩
        · rw [upd_same, List.map_append]; rfl
        · by_cases hj : j < ps.length
          · rw [List.getElem?_append_left hj] at h1
            have h0 := x6.tup (x5.tup (hps j q z2 ns2 h1 h2 h3))
            rw [upd_ne (fun e => by rw [e, hD6] at h0; cases h0)]
            exact h0
          · have hl2 := (List.getElem?_eq_some_iff.mp h1).1
            rw [List.length_append, List.length_singleton] at hl2
            have ej : j = i := by omega
            subst ej
            rw [List.getElem?_append_right (by omega), hpl, Nat.sub_self] at h1
            cases h1
            rw [hz1] at h2
            cases h2
            rw [hns] at h3
            cases h3
            rw [upd_ne nDr.symm]
            exact hr6
      · rintro H4 ⟨x4, ps, hD4, hpl, hps⟩
        exact k D ps H4 (y3.trans (x4.lift ne t3)) (tabS_ex x4 ne t3) (y3.old _ nD) hD4 hpl hps
end
end TG
namespace TG
open PySem PySem.Spec PyProof.Rows L2 NdefX GenW Gx Lv
section
variable {P : Program} {w : World} {K : PySem.W.Frag} {mg : Str → Option Value} {base : Heap} {cs : List (Addr × Addr)}
end
end TG
namespace TG
open PySem PySem.Spec PyProof.Rows L2 NdefX GenW Gx Lv Tw
/-- rows told anew, cell by cell: so far -/
structure GrowR (cs : List (Addr × Addr)) (H : Hp) (D : Addr) (rows : List (List Str)) (f : Str → Str) (i : Nat) (H' : Hp) : Prop where
  ex : Ex cs H H'
  nD : H D = none
  sat : ∃ ps : List Addr, H' D = some (.lst (ps.map V.ref)) ∧ ps.length = i ∧ ∀ (j : Nat) (q : Addr) (r : List Str), ps[j]? = some q → rows[j]? = some r → H' q = some (.tup (sV (r.map f)))
theorem GrowR.start {cs : List (Addr × Addr)} {H : Hp} {D : Addr} {rows : List (List Str)} {f : Str → Str} (hT : Tabs cs H) (n : H D = none) : GrowR cs H D rows f 0 (upd H D (.lst [])) :=
  ⟨Ex.laid hT n, n, [], upd_same, rfl, fun j q r h => by cases h⟩
theorem GrowR.go {cs : List (Addr × Addr)} {H H1 H2 : Hp} {D : Addr} {rows : List (List Str)} {f : Str → Str} {i : Nat} (o : GrowR cs H D rows f i H1) (x : Ex cs H1 H2) : GrowR cs H D rows f i H2 := by
  obtain ⟨ps, h1, h2, h3⟩ := o.sat
  exact ⟨o.ex.trans x, o.nD, ps, x.lst h1, h2, fun j q r a b => x.tup (h3 j q r a b)⟩
theorem GrowR.more {cs : List (Addr × Addr)} {H H1 : Hp} {D t : Addr} {rows : List (List Str)} {f : Str → Str} {i : Nat} {r : List Str} (hT : Tabs cs H) (o : GrowR cs H D rows f i H1) (hr : rows[i]? = some r) (ht : H1 t = some (.tup (sV (r.map f)))) :
    ∃ acc, H1 D = some (.lst acc) ∧ acc.length = i ∧ GrowR cs H D rows f (i + 1) (upd H1 D (.lst (acc ++ [.ref t]))) := by
  obtain ⟨ps, h1, h2, h3⟩ := o.sat
  have nDt : t ≠ D := fun e => by rw [e, h1] at ht; cases ht
  refine ⟨_, h1, by rw [List.length_map, h2], ex_new hT o.ex o.nD, o.nD, ps ++ [t], by rw [upd_same, List.map_append]; rfl, by rw [List.length_append, h2]; rfl, fun j q r2 a b => ?_⟩
  by_cases hj : j < ps.length
  · rw [List.getElem?_append_left hj] at a
    have h0 := h3 j q r2 a b
    rw [upd_ne (fun e => by rw [e, h1] at h0; cases h0)]
    exact h0
  · have hl2 := (List.getElem?_eq_some_iff.mp a).1
    rw [List.length_append, List.length_singleton] at hl2
    have ej : j = i := by omega
    subst ej
    rw [List.getElem?_append_right (by omega), h2, Nat.sub_self] at a
    cases a
    rw [hr] at b
    cases b
    rw [upd_ne nDt]
    exact ht
/-- the cells of one row, so far -/
structure GrowC (cs : List (Addr × Addr)) (H : Hp) (D : Addr) (r : List Str) (f : Str → Str) (i : Nat) (H' : Hp) : Prop where
  ex : Ex cs H H'
  nD : H D = none
  sat : H' D = some (.lst (sV ((r.take i).map f)))
theorem GrowC.start {cs : List (Addr × Addr)} {H : Hp} {D : Addr} {r : List Str} {f : Str → Str} (hT : Tabs cs H) (n : H D = none) : GrowC cs H D r f 0 (upd H D (.lst [])) :=
  ⟨Ex.laid hT n, n, upd_same⟩
theorem GrowC.more {cs : List (Addr × Addr)} {H H1 : Hp} {D : Addr} {r : List Str} {f : Str → Str} {i : Nat} {z : Str} (hT : Tabs cs H) (o : GrowC cs H D r f i H1) (hz : r[i]? = some z) :
    H1 D = some (.lst (sV ((r.take i).map f))) ∧ GrowC cs H D r f (i + 1) (upd H1 D (.lst (sV ((r.take i).map f) ++ [.str (f z)]))) := by
  refine ⟨o.sat, ex_new hT o.ex o.nD, o.nD, ?_⟩
  rw [upd_same, List.take_add_one, hz]
  simp [sV]
theorem GrowC.all {cs : List (Addr × Addr)} {H H1 : Hp} {D : Addr} {r : List Str} {f : Str → Str} (o : GrowC cs H D r f r.length H1) : H1 D = some (.lst (sV (r.map f))) := by
  have := o.sat
  rwa [List.take_of_length_le (Nat.le_refl _)] at this
section
variable {P : Program} {w : World} {K : PySem.W.Frag} {mg : Str → Option Value} {base : Heap} {cs : List (Addr × Addr)}
def rowsBy (f : Str → Str) (rows : List (List Str)) : List (List Str) := rows.map fun r => r.map f
theorem GrowR.page {H H' : Hp} {D : Addr} {rows : List (List Str)} {f : Str → Str} (o : GrowR cs H D rows f rows.length H') : ∃ ps, PageAt K H' D ps (rowsBy f rows) := by
  obtain ⟨ps, h1, h2, h3⟩ := o.sat
  refine ⟨ps, SqL.of h1, by rw [h2]; exact (List.length_map ..).symm, fun i q r a b => ?_⟩
  obtain ⟨r0, hr, rfl⟩ := get_map b
  exact .inl (.inl (h3 i q r0 a hr))
end
end TG
namespace TG
open PySem L2 Gx Lv
section
variable {rows : List (List Str)} {gap least : Int} (S : Small rows gap least) {i : Nat} {r : List Str} (hr : rows[i]? = some r)
include S hr
end
end TG
namespace TG
open PySem PySem.Spec PyProof.Rows L2 NdefX GenW Gx Lv
section
variable {P : Program} {w : World} {K : PySem.W.Frag} {mg : Str → Option Value} {base : Heap} {cs : List (Addr × Addr)}
theorem dokAll_strs : ∀ zs : List Str, dokAll (zs.map PyData.str) = true
  | [] => rfl
  | z :: zs => by
    rw [List.map_cons]
    simp only [dokAll, dok, Bool.true_and]
    exact dokAll_strs zs
theorem dep_rows (rows : List (List Str)) : (PyData.list (rowsD rows)).depth < 4 := by
  have := depthAll_rows rows
  simp only [PyData.depth]
  omega
abbrev zD (zs : List Str) : PyData := .list (zs.map PyData.str)
theorem PageAt.exL {H H' : Hp} {a : Addr} {as : List Addr} {rows : List (List Str)} (p : PageAt K H a as rows) (e : Ex cs H H') : PageAt K H' a as rows := p.ex e
theorem StyleAt.exL {H H' : Hp} {a : Addr} {gap least : Int} (p : StyleAt K H a gap least) (e : Ex cs H H') : StyleAt K H' a gap least := ⟨e.sqT p.tup, p.g0, p.g1, p.l0, p.l1⟩
theorem tabS_kb {b l p : Addr} {q : Str} {H H' : Hp} (t : LamX.TabS H p q) (B : BoxAt H b l) (x : KB b l H H') : LamX.TabS H' p q := by
  obtain ⟨ps, h1, h2, h3⟩ := t
  obtain ⟨ns, st, e1, e2, _⟩ := B
  have cne : ∀ {c : Addr} {q : Str} {xs : List V}, LamX.CodeO c q ≠ .lst xs := fun {c q xs} z => by unfold LamX.CodeO at z; cases z
  refine ⟨ps, x _ _ h1 (ne_of h1 e1 (by intro z; cases z)) (ne_of h1 e2 (by intro z; cases z)), h2, fun pos cv hc => ?_⟩
  obtain ⟨c, g1, g2⟩ := h3 pos cv hc
  exact ⟨c, g1, x _ _ g2 (ne_of g2 e1 cne) (ne_of g2 e2 cne)⟩
end
end TG
namespace Xi
open PySem PySem.Spec PyProof.Rows L2 NdefX
abbrev mwr (x : Addr) : Obj := PySem.W.kxs_mw "ValueError.__init__" x
/-- the bound __init__ of ValueError, tracked -/
def mwO (u x : Addr) : HO := .ext fun h => h.get? u = some (mwr x)
theorem mwO_ok {P : Program} {w : World} {H : Hp} {h : Heap} {u x : Addr} (e : h.get? u = some (mwr x)) : ObjOk P w H h u (mwO u x) := ⟨e, ⟨_, e⟩, fun _ _ z k => k _ z⟩
theorem mwO_at {P : Program} {w : World} {H : Hp} {h : Heap} {u x : Addr} (hok : HOk P w H h) (e : H u = some (mwO u x)) : h.get? u = some (mwr x) := by
  obtain ⟨z, _, _⟩ := hok u _ e
  exact z
section
variable {prog : Program} {w : World} {A : Around} {E : Value → Shared → Prop} {h : Heap} {g : Array GenState} {d : Drawn} {t : Nat} {os : OsState}
variable {nm q : Str} {C N : Addr} {bs bm : List Value} {hdct : Bool} {sn : List Str} {sub : List Value} {ab : Bool} {col : Option Bool} {dd : Option Addr} {k0 k1 k2 k3 k5 : Option Value}
theorem mw_call {u e t0 : Addr} {rest : List Value} {Q : Value → Shared → Prop}
    (hC : h.get? C = some (excClassObj nm q C N bs bm hdct sn sub ab col dd k0 k1 k2 k3 k5 "ValueError.__new__")) (he : h.get? e = some (HandSPX.excO C t0)) (hu : h.get? u = some (mwr e)) (hr : rest.length ≤ sizeLine)
    (hk : ∀ h' t1, (∀ b o, b ≠ e → h.get? b = some o → h'.get? b = some o) → h'.get? e = some (HandSPX.excO C t1) → Q .none ⟨h', g, d, t, os⟩) :
    wpAny (model prog w) A (call (.ref u) rest) Q E ⟨h, g, d, t, os⟩ := by
  refine wpAny_call (codeAny_of_tree ?_)
  show wpAny _ A.in1 (callAny (.ref u) ⟨rest, []⟩) _ _ ⟨h, g, d, t, os⟩
  simp only [callAny]
  refine wpAny_bind (wpAny_load hu ?_)
  simp only [PySem.W.kxs_mw, (by decide : (Value.type "method-wrapper" == Value.type "method" || Value.type "method-wrapper" == Value.type "builtin_function_or_method" || Value.type "method-wrapper" == Value.type "method-wrapper") = true), if_true]
  refine PySem.W.KFB.if_so (by decide) (wpAny_bind (ESX.check_bound PySem.F.excBase_ValueError hC he rfl (wpAny_bind (wpAny_pure (wpAny_pure ?_)))))
  refine ⟨PySem.plainId_quiet PySem.F.excBase_ValueError.init.plain _, codeAny_builtin PySem.F.excBase_ValueError.initEntry ?_⟩
  rw [Around.under_plainId PySem.F.excBase_ValueError.init.plain _]
  wp_walk
  exact hk _ h.objs.size (fun b o hb ho => (Heap.get?_update_other _ _ (Ne.symm hb)).trans (Heap.get?_push_of_some _ ho)) (by rw [Heap.get?_update_self _ (Heap.get?_push_of_some _ he) rfl]; rfl)
end
/-- what the written part says of such a class at C, its __init__ at f -/
structure SupI (P : Program) (K : PySem.W.Frag) (mg : Str → Option Value) (C f cc : Addr) (F : NF) (x : Str) : Prop where
  lk : ∃ oc od osl doc pm ctv, K.lookup f = some ⟨oc, od, .func (F.fd doc pm ctv), osl⟩
  cl : F.cl = [(("__class__" : Str), cc)]
  cell : ∃ a b s, K.lookup cc = some ⟨a, b, .cell (some (.ref C)), s⟩
  code : ∃ a b vs s file tf, K.lookup F.c = some ⟨a, b, .fields vs, s⟩ ∧ vs[2]? = some (.str file tf) ∧ (P.main.file == file) = true
  codeIn : PySem.W.codeIn K (.ref F.c) F.qual = true
  cls : ∃ cd, PySem.W.clsIn K C = some cd ∧ PySem.W.alongIn K "__init__" ((cd.mro.dropWhile (· != .ref C)).drop 1) = some (some (.builtin "ValueError.__init__"))
  self : PySem.W.mroIn K C (.ref C) = some true
  subB : PySem.W.subIn K (.ref C) (.type "ValueError") = some true
  opq : PySem.W.nsIn K cStatics "thirdparty.any" = some none
  sup : mg "super" = none
  top : (P.main.scope.names.lookup ("super" : Str)).isSome = false
  par : ∃ ar ar2, F.params.posonlyargs ++ F.params.args = [ar, ar2] ∧ ar.arg = "self"
  sc : NScope ["self", x, "__class__"] ["self", x] ["__class__"] F.scope
  supk : F.scope.names.lookup ("super" : Str) = some .globalImplicit
  bind : ∀ (doc pm ctv : Value) (us : List Value), us.length = 2 → bindArgs (F.fd doc pm ctv) ⟨us, []⟩ = pure ((["self", x] : List Str).zip us)
end Xi
namespace Xi
open PySem PySem.Spec PyProof.Rows L2 NdefX
def spI (C : Addr) (fl : Str) : Sp := fun vs H Q _ => ∃ (a : Addr) (n : Int), vs = [.ref a, .int n] ∧ 0 ≤ n ∧ n ≤ 100000 ∧ H a = some (exo a C none) ∧
  ∀ (dx : Addr) (H' : Hp), H' a = some (exo a C (some dx)) → H' dx = some (exd dx [(fl, .int n)]) → H dx = none → dx ≠ a → (∀ b o, H b = some o → b ≠ a → H' b = some o) → Q .non H'
section
variable {P : Program} {w : World} {K : PySem.W.Frag} {mg : Str → Option Value} {base : Heap} {CX : CXT}
theorem cells_cls {C f cc : Addr} {F : NF} {x : Str} {A : Around} {outer : List Env} {s : Shared} {H : Hp} (S : SupI P K mg C f cc F x) (e0 : Env0 P w K mg base A outer s H) : CellsAt F.cl ["__class__"] [none] s.heap H := by
  obtain ⟨a, b, sl, hc⟩ := S.cell
  have h1 := e0.mod.kin _ _ hc
  obtain ⟨h2, h3⟩ := e0.bs _ _ h1
  rw [S.cl]
  have lk : ∀ {y : Str} {c : Addr}, ([(("__class__" : Str), cc)] : List (Str × Addr)).lookup y = some c → y = "__class__" ∧ c = cc := fun {y c} e => by
    rw [List.lookup_cons] at e
    cases q : (y == ("__class__" : Str)) with
    | true => rw [q] at e; exact ⟨eq_of_beq q, (Option.some.inj e).symm⟩
    | false => rw [q] at e; cases e
  refine ⟨rfl, fun y c e => ?_, fun y z c e1 e2 => (lk e1).1.trans (lk e2).1.symm, fun i y e => ?_⟩
  · obtain ⟨_, rfl⟩ := lk e
    exact ⟨h3, _, _, h2, rfl⟩
  · match i, e with
    | 0, e =>
      cases e
      exact ⟨cc, rfl, fun v e => by cases e⟩
    | i + 1, e => simp at e
theorem ok_sup {C f cc : Addr} {F : NF} {x fl : Str} {k : Nat} {oc : Value} {od : Option Addr} {osl : Array (Option Value)} {doc pm ctv : Value} {msg : Expr} {tm : TE} {p0 p1 p2 p3 p4 p5 p6 p7 p8 : Pos} (T : OexC K C) (S : SupI P K mg C f cc F x)
    (lk : K.lookup f = some ⟨oc, od, .func (F.fd doc pm ctv), osl⟩) (hno : PySem.W.findIn K (.ref C) fl = some none) (hdbg : (x == ("__debug__" : Str)) = false) (hcd : (x == ("__classdict__" : Str)) = false)
    (hb : F.body = [.Expr (.Call (.Attribute (.Call (.Name "super" p0) [] [] p1) "__init__" p2) [msg] [] p3) p4, .Assign [.Attribute (.Name "self" p5) fl p6] (.Name x p7) p8])
    (hm : ∀ (A : Around) (outer : List Env) (s : Shared) (H : Hp) (E : XK), PE (ncx CX P w K mg base ["self", x, "__class__"] F f A outer s H E) msg tm)
    (hmr : ∀ (a : Addr) (n : Int) (H : Hp) (Q : VK), 0 ≤ n → n ≤ 100000 → (∀ z : Str, Q (.str z) H) → tm (startF ["self", x, "__class__"] [.ref a, .int n] [none]) H Q)
    (hs1 : ∀ env : Env, swapsWith (.Call (.Attribute (.Call (.Name "super" p0) [] [] p1) "__init__" p2) [msg] [] p3) none p4.line env = pure false) (hs2 : ∀ env : Env, swapsWith (.Name x p7) (some (.Attribute (.Name "self" p5) fl p6)) p8.line env = pure false)
    (hst : ∀ env : Env, starEach [msg] env = [(false, eval msg env)])
    (hev : ∀ env : Env, ∃ pl : Sem Bool, eval (.Call (.Attribute (.Call (.Name "super" p0) [] [] p1) "__init__" p2) [msg] [] p3) env = (do
      let ov ← attributeBase (.Call (.Name "super" p0) [] [] p1) "__init__" env (eval (.Call (.Name "super" p0) [] [] p1) env)
      standAt p2.atName
      let (f, first) ← holding [ov] (getMethod ov "__init__" pl)
      callWith p3 f first (backTo p3 (starEach [msg] env)) [])) :
    FnOk P w K mg base CX (k + 1) f (F.fd doc pm ctv) ["self", x] (spI C fl) := by
  refine ⟨fun vs H Q E h => ?_, fun A outer s H args us vs Q E hr e0 hbd r hsp => ?_⟩
  · obtain ⟨a, n, rfl, _⟩ := h
    rfl
  · obtain ⟨a, n, rfl, n0, n1, ha, hk⟩ := hsp
    have KX : K.In s.heap := e0.mod.kin.keeps fun b o e => (e0.bs b o e).1
    have lim : s.heap.NoLimit := e0.mod.nolimit.keeps fun b o e => (e0.bs b o e).1
    have hul : us.length = 2 := r.length.symm
    obtain ⟨u0, u1, rfl⟩ : ∃ u0 u1, us = [u0, u1] := by
      match us, hul with
      | [u0, u1], _ => exact ⟨u0, u1, rfl⟩
    have ru0 : u0 = .ref a := by cases r with | cons h _ => exact h
    subst ru0
    refine PySem.ks_codeAny_call_defAt hr.depth (KX _ _ lk) rfl lim (PySem.W.codeRec_of KX S.codeIn) rfl hbd S.sc.nocell (fun ⟨y, _⟩ hy => S.sc.par y (List.of_mem_zip hy).1) (fun h₁ hns kp => ?_) S.sc.co S.sc.gen S.sc.kind
    have I : Inv (ncx CX P w K mg base ["self", x, "__class__"] F f A outer s H E) [] (startF ["self", x, "__class__"] [.ref a, .int n] [none]) H { s with heap := h₁, toks := s.toks + ((["self", x] : List Str).zip [Value.ref a, u1]).length } :=
      inv_startN S.sc hr.hd e0 rfl r (cells_cls S e0) hns kp
    show PySem.wpAt (model P w) (A.deeper (envF F f s.heap.objs.size)) (.func F.body (envF F f s.heap.objs.size)) (execs F.body (envF F f s.heap.objs.size)) _ _ _
    generalize hs₁ : ({ s with heap := h₁, toks := s.toks + ((["self", x] : List Str).zip [Value.ref a, u1]).length } : Shared) = s₁ at I ⊢
    have hself : s₁.heap.Ns s.heap.objs.size fun y => ((["self", x] : List Str).zip [Value.ref a, u1]).reverse.lookup y := by rw [← hs₁]; exact hns
    clear hs₁ hns kp
    rw [hb]
    obtain ⟨pl, hpl⟩ := hev (envF F f s.heap.objs.size)
    refine PySem.ks_wpAt_execs_cons (PySem.ks_wpAt_Expr_any (PySem.ks_wpAt_MethodCall ?_ hpl) (by unfold interactive; rw [show (envF F f s.heap.objs.size).scope = F.scope from rfl, S.sc.kind]; rfl) (hs1 _))
    obtain ⟨ar, ar2, hpar, har⟩ := S.par
    obtain ⟨ca, cb, cvs, csl, file, tf, hcode, hvs, hfile⟩ := S.code
    obtain ⟨la, lb, lsl, hcell⟩ := S.cell
    obtain ⟨cd, hcl, hal⟩ := S.cls
    have X1 : K.In s₁.heap := I.kIn
    obtain ⟨oD, hD1, hD2⟩ : ∃ oD, s₁.heap.get? C = some oD ∧ oD.data = .cls cd := by
      unfold PySem.W.clsIn at hcl
      split at hcl
      · rename_i ho
        cases hcl
        exact ⟨_, X1 _ _ ho, rfl⟩
      · cases hcl
    refine PySem.ks_wpAt_super_base (env := envF F f s.heap.objs.size) S.supk (S.sc.frk _ (List.mem_singleton.mpr rfl)) (by decide) rfl (X1 _ _ lk) rfl (by rw [show (F.fd doc pm ctv).params = F.params from rfl, hpar]; rfl) rfl (X1 _ _ hcode) rfl hvs hfile S.top ?_
    obtain ⟨mb, hmb, hmb2⟩ := I.mod.blt
    refine PySem.W.ks_loadName_global S.sc.kind S.supk (Calls.loadGlobal_builtin (mg := mg) (mb := mb) (v := .type "super") (I.mod.glob.keeps I.bk) S.sup (hmb.keeps I.bk) ((hmb2 "super" (by decide)).trans (by decide +kernel)) ⟨rfl, ?_⟩)
    refine wpAny_loadName_free S.sc.kind (S.sc.frk _ (List.mem_singleton.mpr rfl)) (c := cc) (by rw [show (envF F f s.heap.objs.size).cells = F.cl from rfl, S.cl]; rfl) ⟨_, X1 _ _ hcell, rfl⟩ ?_
    rw [har]
    refine wpAny_loadName_local S.sc.kind (S.sc.par "self" List.mem_cons_self) hself (v := .ref a) ?_ ?_
    · have h1 : (x == ("self" : Str)) = false ∨ (x == ("self" : Str)) = true := by cases (x == ("self" : Str)) <;> simp
      have hne : ("self" : Str) ≠ x := by
        have q := S.sc.nd
        intro z
        rw [← z] at q
        simp at q
      exact zip_look (ps := ["self", x]) (us := [Value.ref a, u1]) (i := 0) (by simp [hne]) rfl rfl
    obtain ⟨t1, ho⟩ := exo_at I.hok ha
    obtain ⟨hh, g, d, t, os⟩ := s₁
    refine PySem.ks_wpAny_isType_cls hD1 hD2 ⟨rfl, ?_⟩
    refine PySem.ks_wpAny_call_super hD1 hD2 ho rfl (fun c e => by cases e) (PySem.W.looks_mroIn X1 S.self) (fun h2 e2 kq => ?_)
    have I1 : Inv (ncx CX P w K mg base ["self", x, "__class__"] F f A outer s H E) [] (startF ["self", x, "__class__"] [.ref a, .int n] [none]) H ⟨h2, g, d, t, os⟩ := I.kept (t' := t) kq
    have X2 : K.In h2 := I1.kIn
    have ho2 := kq _ _ ho
    have IA : PySem.W.InstAt h2 a { cls := .ref C, dict := none, data := .fields #[.ref t1, .none, .none, .none, .bool false, .none] } C none := ⟨ho2, rfl, rfl, trivial⟩
    refine PySem.W.kxs_getMethod PySem.W.kxs_ValueError e2 (PySem.W.looks_opaque X2 S.opq) (l₀ := cd.mro) ((PySem.W.looks_clsIn X2 hcl).andThen .now) rfl X2 hal (IA.type.andThen (PySem.W.looks_subIn X2 S.subB)) (PySem.W.ks_ne X2 IA hcl) rfl ?_
    have I2 := I1.laid (a := h2.objs.size) (t' := t + 1) (o := mwO h2.objs.size a) (h' := h2.push (mwr a)) (fun b o e => Heap.get?_push_of_some _ e) (Nat.le_refl _) (mwO_ok (Heap.get?_push_size _ rfl))
    have nu : H h2.objs.size = none := I1.hok.fresh (Nat.le_refl _)
    have au : a ≠ h2.objs.size := fun z => by rw [← z, ha] at nu; cases nu
    have hn2 : H (h2.objs.size) = none := nu
    generalize hu : h2.objs.size = u at I2 nu au hn2 ⊢
    have ha2 : (upd H u (mwO u a)) a = some (exo a C none) := by rw [upd_ne au]; exact ha
    have hu2 : (upd H u (mwO u a)) u = some (mwO u a) := upd_same
    generalize hH2 : upd H u (mwO u a) = H2 at I2 ha2 hu2
    refine PySem.W.kxs_callWith (i := "ValueError.__init__") (x := a) (by rw [hst]; rfl) ?_
    have hp : PA (ncx CX P w K mg base ["self", x, "__class__"] F f A outer s H E) [msg] (tCons tm tNil) := pa_cons (hm A outer s H E) pa_nil (hst _)
    have hrun := hp.run p3 [] _ _ H2 (fun vs H3 => (∃ z, vs = [V.str z]) ∧ H3 = H2) I2 (hmr a n H2 _ n0 n1 fun z => ⟨⟨z, rfl⟩, rfl⟩)
    have hst2 : starEach [msg] (ncx CX P w K mg base ["self", x, "__class__"] F f A outer s H E).env = [(false, eval msg (envF F f s.heap.objs.size))] := hst _
    rw [hst2] at hrun
    rw [hst]
    refine Calls.evalArgs_plain (thn hrun fun us3 s3 h3 => ?_)
    obtain ⟨vs3, H3, I3, r3, ⟨z, ez⟩, eH⟩ := h3
    subst ez eH
    refine ⟨mwO_at I3.hok hu2, ?_⟩
    obtain ⟨nm, q, N, bs, bm, sn, sub, ab, col, dd, k0, k1, k2, k3, k5, hC, hbm⟩ := T.cls
    obtain ⟨t3, ho3⟩ := exo_at I3.hok ha2
    have hl3 : us3.length ≤ sizeLine := by rw [← Paired.length r3]; exact (by decide : (1 : Nat) ≤ sizeLine)
    have hC3 := I3.kIn _ _ hC
    have hu3 := mwO_at I3.hok hu2
    obtain ⟨h3, g3, d3, t3', os3⟩ := s3
    refine mw_call hC3 ho3 hu3 hl3 (fun h4 t4 k4 hx4 => ?_)
    have J := I3.write (t' := t3') (x := a) (e := a) (o := exo a C none) (by rw [ha2]; exact True.intro) (.inl rfl) k4 ⟨_, hx4⟩ (exo_ok hx4)
    have eu : upd H3 a (exo a C none) = H3 := by
      funext b
      by_cases hb : b = a
      · rw [hb, upd_same, ha2]
      · rw [upd_ne hb]
    rw [eu] at J
    show PySem.wpAt _ _ _ (execs [.Assign [.Attribute (.Name "self" p5) fl p6] (.Name x p7) p8] (envF F f s.heap.objs.size)) _ _ _
    have ht : PSs (ncx CX P w K mg base ["self", x, "__class__"] F f A outer s H E) [.Assign [.Attribute (.Name "self" p5) fl p6] (.Name x p7) p8] _ :=
      pss_one (ps_ost (pe_var (i := 0) rfl (.inl (S.sc.par "self" List.mem_cons_self))) (pe_var (i := 1) rfl (.inl (S.sc.par x (List.mem_cons_of_mem _ List.mem_cons_self))) hdbg hcd) (hs2 _))
    refine wpAt_of_wpAny (wpAny_mono (ht.run [] _ _ H3 { nx := fun _ H' => Q .non H', rt := Q } J ⟨_, rfl, _, rfl, a, C, rfl, T, hno, .inl ⟨ha2, fun dx hdx hda => ?_⟩⟩) (fun fl' s' hs => ?_) fun e s' hs => hs)
    · have hdx0 : H dx = none ∧ dx ≠ u := by
        rw [← hH2] at hdx
        by_cases e : dx = u
        · rw [e, upd_same] at hdx; cases hdx
        · rw [upd_ne e] at hdx; exact ⟨hdx, e⟩
      refine hk dx _ upd_same (by rw [upd_ne hda, upd_same]) hdx0.1 hda fun b o e hba => ?_
      rw [upd_ne hba, upd_ne (ne_of_none e hdx0.1), ← hH2, upd_ne (ne_of_none e nu)]
      exact e
    · cases fl' with
      | next =>
        obtain ⟨σ', H', J', q'⟩ := hs
        exact ⟨.non, H', J'.os, J'.bare, J'.base, J'.hok, rfl, q'⟩
      | ret u =>
        obtain ⟨v, σ', H', J', rv, q'⟩ := hs
        exact ⟨v, H', J'.os, J'.bare, J'.base, J'.hok, rv, q'⟩
      | brk =>
        obtain ⟨_, _, _, q'⟩ := hs
        exact False.elim q'
      | cont =>
        obtain ⟨_, _, _, q'⟩ := hs
        exact False.elim q'
end
end Xi
namespace TG
open PySem L2 Gx
def sgB (c : Nat) : Bool := decide (32 ≤ c) && decide (c ≤ 126) && decide (c ≠ 37)
theorem sgB_iff {c : Nat} : sgB c = true ↔ SgOk c := by
  unfold sgB SgOk
  simp only [Bool.and_eq_true, decide_eq_true_eq]
  omega
def textB (z : Str) (m : Int) : Bool := decide ((z.length : Int) ≤ m) && (cl z).all sgB
/-- what is no text -/
def NoText (K : PySem.W.Frag) (H : Hp) (v : V) : Prop := ∃ nm : String, TyX K H v (.type nm) ∧ kitB nm "str" = some false
section
variable {P : Program} {w : World} {K : PySem.W.Frag} {mg : Str → Option Value} {base : Heap} {cs : List (Addr × Addr)}
def spSg2 : Sp := fun vs H Q _ => ∃ c : Nat, vs = [.str ⟨#[c]⟩] ∧ Q (.bl (sgB c)) H
theorem ok_sg2 {f : Addr} {fd : FuncData} (T : Txt mg) (N : Consts mg) (F : Fun K "is_sign" "is_sign" s_is_sign f fd) : FnOk P w K mg base CX0 1 f fd ["sign"] spSg2 := by
  refine F.ok sc_sg (fun vs H Q E h => ?_) (fun cdv A outer s H vs Q E hr h => ?_)
  · obtain ⟨c, rfl, _⟩ := h
    rfl
  · obtain ⟨c, rfl, k⟩ := h
    obtain ⟨t1, e1⟩ := N.blank
    obtain ⟨t2, e2⟩ := N.tilde
    obtain ⟨t3, e3⟩ := N.percent
    refine ⟨_, pss_one (ps_ret (pe_and (pe_chain op_le op_le (pe_glob (v := .int 32) rfl e1 ⟨_, rfl⟩) (pe_callB call_ord (by rfl) T.ord (by decide +kernel) (pa_cons (pv 0) pa_nil)) (pe_glob (v := .int 126) rfl e2 ⟨_, rfl⟩))
      (pe_one (pe_cmpR op_ne (pe_callB call_ord (by rfl) T.ord (by decide +kernel) (pa_cons (pv 0) pa_nil)) (pe_glob (v := .int 37) rfl e3 ⟨_, rfl⟩) (nomark _))))), ?_⟩
    refine ⟨_, rfl, _, rfl, rfl, 32, (c : Int), rfl, rfl, ?_⟩
    by_cases h1 : 32 ≤ c
    · refine ⟨true, dT (show (32 : Int) ≤ c by omega), iteT ⟨(c : Int), 126, rfl, rfl, ?_⟩⟩
      by_cases h2 : c ≤ 126
      · have e4 : V.bl (decide ((c : Int) ≤ 126)) = V.bl true := dT (by omega)
        refine ⟨true, e4, iteT ⟨_, rfl, _, rfl, rfl, rfl, ?_⟩⟩
        have e5 : (!decide (V.int (c : Int) = V.int 37)) = sgB c := by
          unfold sgB
          rw [decide_eq_true h1, decide_eq_true h2]
          by_cases h3 : c = 37
          · subst h3
            rfl
          · rw [decide_eq_false (show ¬ V.int (c : Int) = V.int 37 from fun z => by injection z with z; exact h3 (by omega)), decide_eq_true (show c ≠ 37 from h3)]
            rfl
        show Q (.bl (!decide (V.int (c : Int) = V.int 37))) H
        rw [e5]
        exact k
      · have e4 : V.bl (decide ((c : Int) ≤ 126)) = V.bl false := dF (by omega)
        have e5 : sgB c = false := by
          unfold sgB
          rw [decide_eq_false h2, Bool.and_false, Bool.false_and]
        rw [e5] at k
        exact ⟨false, e4, iteF k⟩
    · have e5 : sgB c = false := by
        unfold sgB
        rw [decide_eq_false h1, Bool.false_and, Bool.false_and]
      rw [e5] at k
      refine ⟨false, dF (by omega), iteF ⟨false, ?_, iteF ?_⟩⟩
      · first | rfl | exact dF (by omega)
      · exact k
def spText2 (K : PySem.W.Frag) (cs : List (Addr × Addr)) : Sp := fun vs H Q _ => ∃ (v : V) (m : Int) (b : Bool), vs = [v, .int m] ∧ Tabs cs H ∧ ((NoText K H v ∧ b = false) ∨ ∃ z, v = .str z ∧ z.length ≤ 1000 ∧ b = textB z m) ∧ ∀ H', Ex cs H H' → Q (.bl b) H'
theorem ok_text2 {f c Pt g : Addr} {fd fdg : FuncData} (T : Txt mg) (F : Fun K "is_text_of_signs" "is_text_of_signs" s_is_text f fd) (hc : fd.code = .ref c) (TB : GxR.TabB base mg c Pt) (hm : (c, Pt) ∈ cs)
    (G : FnOk P w K mg base CX0 1 g fdg ["sign"] spSg2) (kp : PySem.W.keepIn K (.ref g) = true) (bd : Binds K fdg ["sign"] []) (mgg : mg "is_sign" = some (.ref g)) : FnOk P w K mg base CX0 5 f fd ["value", "most"] (spText2 K cs) := by
  refine fun_okT F hc sc_text (fun vs H Q E h => ?_) (fun A outer s H vs Q E hr h => ?_)
  · obtain ⟨v, m, b, rfl, _⟩ := h
    rfl
  · obtain ⟨v, m, b, rfl, hT, hv, k⟩ := h
    refine ⟨_, pss_one (ps_ret (pe_and (pe_callB call_isi (by rfl) T.isin (by decide +kernel) (pa_cons (pv 0) (pa_cons (pe_bltn (v := .ty "str") (by rfl) T.str (by decide +kernel) rfl) pa_nil)))
      (pe_and (pe_cmpR op_le (pe_callB call_len_str (by rfl) T.len PySem.boot_len (pa_cons (pv 0) pa_nil)) (pv 1) (nomark _))
        (pe_one (pe_allG (k := 1) (P := Pt) hr (by rfl) T.all TB rfl ⟨rfl, rfl, by decide +kernel, by decide +kernel, rfl, rfl⟩ (pi_str (pv 0)) (fun A' code s4 H4 fp hr' => pe_call G hr' (by rfl) mgg kp bd .nil pass0 (pa_cons (pv 0) pa_nil)) (fun _ => rfl)))))), ?_⟩
    rcases hv with ⟨⟨nm, ty, hk⟩, rfl⟩ | ⟨z, rfl, h2, rfl⟩
    · exact ⟨_, rfl, _, _, _, _, false, rfl, .ty _, ty, kit_ty hk, false, rfl, iteF (k _ (Ex.refl hT))⟩
    · refine ⟨_, rfl, _, _, _, _, true, rfl, .ty _, .base (.str z), kit_ty (by decide +kernel), true, rfl, iteT ⟨_, rfl, z, rfl, line10 h2, _, rfl, _, _, rfl, rfl, ?_⟩⟩
      by_cases h1 : (z.length : Int) ≤ m
      · have hB : textB z m = (cl z).all sgB := by
          unfold textB
          rw [decide_eq_true h1, Bool.true_and]
        refine ⟨true, dT h1, iteT ⟨_, rfl, z, rfl, hT _ hm, fun H2 hH2 => ?_⟩⟩
        have x2 := Ex.tabbed hT hm hH2
        refine all_by (w := walk_str (z := z)) (fun i => match (cl z)[i]? with | some c => sgB c | none => true) (fun _ H' => Ex cs H H') x2 (fun _ _ _ _ => trivial) (fun i v H3 H4 hi x y Z hZ => ?_) (fun H3 x hall => ?_) (fun i H3 hi hff x => ?_)
        · obtain ⟨rfl, c, hc, rfl⟩ := y
          have hc2 : (cl z)[i]? = some c := by rw [Array.getElem?_toList]; exact hc
          refine ⟨_, rfl, c, rfl, ?_⟩
          have := hZ _ x
          rw [hc2] at this
          exact this
        · have e : textB z m = true := by
            rw [hB, List.all_eq_true]
            intro c hcm
            obtain ⟨i, hi, e⟩ := List.getElem_of_mem hcm
            have q := hall i (by have := len_cl z; omega)
            rw [List.getElem?_eq_getElem hi, e] at q
            exact q
          rw [← e]
          exact k _ x
        · have e : textB z m = false := by
            rw [hB, Bool.eq_false_iff]
            intro q
            rw [List.all_eq_true] at q
            have hi2 : i < (cl z).length := by have := len_cl z; omega
            rw [List.getElem?_eq_getElem hi2] at hff
            have := q _ (List.getElem_mem hi2)
            rw [show sgB (cl z)[i] = false from hff] at this
            cases this
          rw [← e]
          exact k _ x
      · have e : textB z m = false := by
          unfold textB
          rw [decide_eq_false h1, Bool.false_and]
        rw [e] at k
        exact ⟨false, dF h1, iteF (k _ (Ex.refl hT))⟩
end
end TG
namespace TG
open PySem PySem.Spec PyProof.Rows L2 NdefX GenW Gx Lv
/-- a class of errors whose begin takes a number and keeps it as the field fl -/
structure RaiseC (P : Program) (w : World) (K : PySem.W.Frag) (mg : Str → Option Value) (base : Heap) (x fl : Str) (C fI : Addr) (fdI : FuncData) : Prop where
  oex : OexC K C
  iC : PySem.W.findIn K (.ref C) "__init__" = some (some (.ref fI))
  tI : PySem.W.typeIn K (.ref fI) = some (.type "function")
  ini : FnOk P w K mg base CX0 1 fI fdI ["self", fl] (Xi.spI C fl)
  bd : Binds K fdI ["self", fl] []
  mg_ : mg x = some (.ref C)
section
variable {P : Program} {w : World} {K : PySem.W.Frag} {mg : Str → Option Value} {base : Heap} {cs : List (Addr × Addr)}
theorem _root_.Gx.Ex.kept {H H' : Hp} (t : Tabs cs H) (k : ∀ b o, H b = some o → H' b = some o) : Ex cs H H' := by
  refine ⟨fun b o h _ => k b o h, fun p hp => ?_, fun b h => ?_, fun b o h _ => k b o h⟩
  · obtain ⟨ps, h1, h2⟩ := t p hp
    exact ⟨ps, k _ _ h1, h2⟩
  · cases e : H b with
    | none => rfl
    | some o =>
      rw [k b o e] at h
      cases h
/-- what a raise of such an error asks, in short -/
theorem raise_go {fl : Str} {C : Addr} {ta : TA} {σ : L2.St} {H : Hp} {n : Int} {E : XK} (hT : Tabs cs H) (n0 : 0 ≤ n) (n1 : n ≤ 100000) (h : ∀ Q : List V → Hp → Prop, Q [.int n] H → ta σ H Q)
    (k : ∀ (d : Addr) (H' : Hp), Ex cs H H' → H d = none → H' d = some (.xd [(fl, .int n)]) → E (.ref C) (some d) H') : tMkO C (Xi.spI C fl) [] ta σ H E := by
  refine h _ ⟨by simp, fun a na => ⟨a, n, rfl, n0, n1, upd_same, fun dx H' h1 h2 h3 h4 h5 => ⟨rfl, dx, _, h1, h2, ?_, ?_⟩⟩⟩
  · rw [upd_ne h4] at h3
    exact h3
  · have hd : H dx = none := by rw [upd_ne h4] at h3; exact h3
    refine k dx _ (Ex.kept hT fun b o hb => ?_) hd upd_same
    have ha : b ≠ a := ne_of_none hb na
    have hb2 : b ≠ dx := ne_of_none hb hd
    rw [upd_ne hb2, del_ne ha]
    exact h5 b o (by rw [upd_ne ha]; exact hb) ha
/-- lines of which the first that can't be is n -/
structure BadLn (K : PySem.W.Frag) (H : Hp) (xs : List V) (n : Nat) : Prop where
  lt : n < xs.length
  n30 : n ≤ 30
  ok : ∀ i, i < n → ∃ z, xs[i]? = some (.str z) ∧ z.length ≤ 1000 ∧ textB z 200 = true
  bad : n = 30 ∨ ∃ v, xs[n]? = some v ∧ (NoText K H v ∨ ∃ z, v = .str z ∧ z.length ≤ 1000 ∧ textB z 200 = false)
/-- what is no text stays none -/
def Stays (K : PySem.W.Frag) (cs : List (Addr × Addr)) (H : Hp) (xs : List V) : Prop := ∀ v ∈ xs, NoText K H v → ∀ H', Ex cs H H' → NoText K H' v
def spLinesX (K : PySem.W.Frag) (cs : List (Addr × Addr)) (C : Addr) : Sp := fun vs H _ E => ∃ (a : Addr) (xs : List V) (n : Nat), vs = [.ref a] ∧ Tabs cs H ∧ SqL K H a xs ∧ BadLn K H xs n ∧ Stays K cs H xs ∧
  ∀ (d : Addr) (H' : Hp), Ex cs H H' → H d = none → H' d = some (.xd [("line", .int (n : Nat))]) → E (.ref C) (some d) H'
theorem ok_clinesX {f g C fI : Addr} {fd fdg fdI : FuncData} (T : Txt mg) (N : Consts2 mg) (R : RaiseC P w K mg base "BadLines" "line" C fI fdI) (F : Fun K "check_lines" "check_lines" s_check_lines f fd)
    (G : FnOk P w K mg base CX0 5 g fdg ["value", "most"] (spText2 K cs)) (kp : PySem.W.keepIn K (.ref g) = true) (bd : Binds K fdg ["value", "most"] []) (mgg : mg "is_text_of_signs" = some (.ref g)) : FnOk P w K mg base (L2.CX P w) 6 f fd ["lines"] (spLinesX K cs C) := by
  refine F.okX sc_clines (fun vs H Q E h => ?_) (fun cdv A outer s H vs Q E hr h => ?_)
  · obtain ⟨a, xs, n, rfl, _⟩ := h
    rfl
  · obtain ⟨a, xs, n, rfl, hT, hP, hO, hst, k⟩ := h
    have nd := sc_clines.nd
    obtain ⟨t1, e1⟩ := N.lines
    obtain ⟨t2, e2⟩ := N.far
    have hr2 : Room 2 _ := hr.mono (by decide)
    refine ⟨_, pss_cons (ps_if (pt_not (pt_val (pe_callB call_isi (by rfl) T.isin (by decide +kernel) (pa_cons (pv 0) (pa_cons (pe_bltn (v := .ty "list") (by rfl) T.list (by decide +kernel) rfl) pa_nil))))) (pss_one ps_never) pss_nil)
      (pss_one (ps_for (passes_of rfl) rfl (pi_enum (by rfl) T.enum (pa_cons (pv 0) pa_nil)) (pg_tup rfl (pgs_cons (pg_name (i := 1) nd rfl (.inl rfl)) (pgs_cons (pg_name (i := 2) nd rfl (.inl rfl)) pgs_nil)))
        (pss_one (ps_if (PW.pt (pw_or (pt_cmpR op_eq (pv 1) (pe_glob (v := .int 30) rfl e1 ⟨_, rfl⟩) (nomark _)) (pw_or1 (pt_not (pt_val (pe_call G hr (by rfl) mgg kp bd .nil pass0 (pa_cons (pv 2) (pa_cons (pe_glob (v := .int 200) rfl e2 ⟨_, rfl⟩) pa_nil))))))))
          (pss_one (ps_raise rfl (takes_of rfl rfl rfl rfl) (pmk_oex R.oex R.iC R.tI R.ini hr2 R.bd .nil pass0 (by rfl) R.mg_ (pa_cons (pv 1) pa_nil)))) pss_nil)))), ?_⟩
    have hlt := hO.lt
    refine ⟨_, rfl, _, _, _, _, true, rfl, .ty _, ty_list hP, kit_ty (by decide +kernel), true, rfl, iteF ?_⟩
    refine ⟨_, rfl, a, _, rfl, hP, for_it (walk_enum (xs := xs)) (fun i σ H' => i ≤ n ∧ Ex cs H H' ∧ σ[0]? = some (some (.ref a)) ∧ σ.length = 3) ⟨Nat.zero_le _, Ex.refl hT, rfl, rfl⟩ (fun i σ H' _ x => x.2.1.sqL hP) ?_ ?_⟩
    · rintro i x σ H3 H4 hi ⟨hin, x3, s0, sl⟩ ⟨Tp, v, u, rfl, hn, rfl, hv, hu⟩
      cases hv
      have hu : xs[i]? = some u := hu
      have xl := Ex.laid (o := .tup [.int (i : Nat), u]) x3.tab hn
      have x4 := x3.trans xl
      have n30 := hO.n30
      refine ⟨Tp, _, rfl, .inl (.inl upd_same), rfl, _, _, rfl, _, _, rfl, rfl, ?_⟩
      have g1 : ((σ.set 1 (some (V.int (i : Nat)))).set 2 (some u))[1]? = some (some (V.int (i : Nat))) := by
        rw [List.getElem?_set_ne (by decide)]
        exact List.getElem?_set_self (by omega)
      have g2 : ((σ.set 1 (some (V.int (i : Nat)))).set 2 (some u))[2]? = some (some u) := List.getElem?_set_self (by rw [List.length_set]; omega)
      by_cases hlt2 : i < n
      · obtain ⟨z, hz, hz2, hz3⟩ := hO.ok i hlt2
        rw [hz] at hu
        cases hu
        refine ⟨_, g1, rfl, false, dF (fun z => by injection z with z; omega), iteF ⟨_, g2, .str z, 200, _, rfl, xl.tab, .inr ⟨z, rfl, hz2, rfl⟩, fun H5 x5 => ⟨_, rfl, ?_⟩⟩⟩
        rw [hz3]
        refine iteF ⟨by omega, x4.trans x5, ?_, ?_⟩
        · rw [List.getElem?_set_ne (by decide), List.getElem?_set_ne (by decide)]; exact s0
        · rw [List.length_set, List.length_set]; exact sl
      · have ein : i = n := by omega
        subst ein
        by_cases h30 : i = 30
        · refine ⟨_, g1, rfl, true, dT (by rw [h30]; rfl), iteT (iteT ?_)⟩
          refine raise_go (n := ((i : Nat) : Int)) xl.tab (by omega) (by omega) (fun Q q => ⟨_, g1, q⟩) fun d H' x5 nd5 hd5 => ?_
          exact k d H' (x4.trans x5) (x4.old _ nd5) hd5
        · refine ⟨_, g1, rfl, false, dF (fun z => by injection z with z; omega), iteF ?_⟩
          rcases hO.bad with z | ⟨v, hv, hbad⟩
          · exact absurd z h30
          rw [hv] at hu
          cases hu
          refine ⟨_, g2, _, 200, false, rfl, xl.tab, ?_, fun H5 x5 => ⟨false, rfl, iteT ?_⟩⟩
          · rcases hbad with q | ⟨z, rfl, q1, q2⟩
            · exact .inl ⟨hst _ (List.mem_of_getElem? hv) q _ x4, rfl⟩
            · exact .inr ⟨z, rfl, q1, q2.symm⟩
          · refine raise_go (n := ((i : Nat) : Int)) x5.tab (by omega) (by omega) (fun Q q => ⟨_, g1, q⟩) fun d H' x6 nd6 hd6 => ?_
            exact k d H' ((x4.trans x5).trans x6) ((x4.trans x5).old _ nd6) hd6
    · rintro σ H' ⟨hin, _⟩
      omega
end
end TG
namespace TG
open PySem PySem.Spec PyProof.Rows L2 NdefX GenW Gx Lv
section
variable {P : Program} {w : World} {K : PySem.W.Frag} {mg : Str → Option Value} {base : Heap} {cs : List (Addr × Addr)}
def spLinesX2 (K : PySem.W.Frag) (cs : List (Addr × Addr)) (C : Addr) : Sp := fun vs H Q E => ∃ (a : Addr) (t : V), vs = [.ref a, t] ∧ spLinesX K cs C [.ref a] H Q E
theorem ok_backX {f g1 C : Addr} {fd fd1 : FuncData} (F : Fun K "read_back" "read_back" s_read_back f fd)
    (G1 : FnOk P w K mg base (L2.CX P w) 6 g1 fd1 ["lines"] (spLinesX K cs C)) (kp1 : PySem.W.keepIn K (.ref g1) = true) (bd1 : Binds K fd1 ["lines"] []) (m1 : mg "check_lines" = some (.ref g1)) : FnOk P w K mg base (L2.CX P w) 7 f fd ["lines", "told"] (spLinesX2 K cs C) := by
  refine F.okX sc_back (fun vs H Q E h => ?_) (fun cdv A outer s H vs Q E hr h => ?_)
  · obtain ⟨a, t, rfl, _⟩ := h
    rfl
  · obtain ⟨a, t, rfl, a2, xs, n, e, hT, hP, hO, hst, k⟩ := h
    cases e
    refine ⟨_, pss_cons (ps_expr (pe_callS G1 hr (by rfl) m1 kp1 bd1 (fun σ => passAt (takes_of rfl rfl rfl rfl) σ) (pa_cons (pv 0) pa_nil))) (pss_cons ps_never (pss_one ps_never)), ?_⟩
    exact ⟨_, rfl, a, xs, n, rfl, hT, hP, hO, hst, k⟩
end
end TG
namespace TG
open PySem PySem.Spec PyProof.Rows L2 NdefX GenW Gx Lv
def initOf : Stmt → Stmt
  | .ClassDef _ _ _ [s] _ _ _ _ _ _ _ => s
  | s => s
abbrev iniL : Stmt := initOf (top 9)
abbrev nfI (c cc : Addr) : NF := ⟨"__init__", "BadLines.__init__", defArgs iniL, defBody iniL, defScope iniL, [("__class__", cc)], c⟩
theorem log_ok {n : Int} (h0 : 0 ≤ n) (h1 : n ≤ 100000) : n.natAbs.log2 < 1920 := by
  by_cases h : n.natAbs = 0
  · rw [h]; decide
  · refine (Nat.log2_lt h).mpr (Nat.lt_of_lt_of_le (show n.natAbs < 2 ^ 17 by omega) (Nat.pow_le_pow_right (by decide) (by decide)))
theorem app_len (x y : Str) : (x ++ y).length = x.length + y.length := by
  have h := congrArg List.length (cl_app x y)
  rw [List.length_append] at h
  simpa [cl, Str.length] using h
section
variable {P : Program} {w : World} {K : PySem.W.Frag} {mg : Str → Option Value} {base : Heap}
theorem sc_iniL : NScope ["self", "line", "__class__"] ["self", "line"] ["__class__"] (defScope iniL) := nscope_by (by decide +kernel)
theorem ok_iniL {C f cc c : Addr} {oc : Value} {od : Option Addr} {osl : Array (Option Value)} {doc pm ctv : Value} (T : OexC K C) (S : Xi.SupI P K mg C f cc (nfI c cc) "line") (lk : K.lookup f = some ⟨oc, od, .func ((nfI c cc).fd doc pm ctv), osl⟩)
    (hno : PySem.W.findIn K (.ref C) "line" = some none) : FnOk P w K mg base CX0 1 f ((nfI c cc).fd doc pm ctv) ["self", "line"] (Xi.spI C "line") := by
  refine Xi.ok_sup (k := 0) T S lk hno (by decide +kernel) (by decide +kernel) rfl (fun A outer s H E => pe_joined (.cons pe_str (.cons (pe_fmt (pv 1)) (.cons pe_str .nil)))) (fun a n H Q n0 n1 q => ?_) (fun env => rfl) (fun env => rfl) (fun env => rfl) (fun env => ⟨_, rfl⟩)
  have l1 : (Str.empty ++ ("the lines can't be from line " : Str)).length ≤ 100 := by decide +kernel
  have l2 : (Str.ofString (toString n)).length ≤ 9 := (num_ok n0 (by omega)).1
  have l3 : (" on" : Str).length = 3 := by decide +kernel
  have sz : (1000 : Nat) < sizeLine := by decide
  refine ⟨_, rfl, by omega, .int n, rfl, .inr ⟨n, rfl, log_ok n0 n1, _, rfl, ?_, _, rfl, ?_, q _⟩⟩
  · rw [app_len]
    have : (toString n : Str).length ≤ 9 := l2
    omega
  · rw [app_len, app_len]
    have : (toString n : Str).length ≤ 9 := l2
    omega
end
end TG
namespace TG
open PySem PySem.Spec PyProof.Rows L2 NdefX GenW Gx Lv
abbrev IniW : Type := Option (Str × Str × Arguments × FuncBody × Scope × Addr × List Str × Addr)
abbrev iniA (K : PySem.W.Frag) (x : Str) : Addr := He.ma K (He.ga K x) "__init__"
def iniW (K : PySem.W.Frag) (x : Str) : IniW := match K.lookup (iniA K x) with
  | some ⟨_, _, .func fd, _⟩ => some (fd.name, fd.qualname, fd.params, fd.body, fd.scope, fd.globals, fd.closure.map (·.1), fd.builtins)
  | _ => none
def oexB (K : PySem.W.Frag) (C : Addr) : Bool := match K.lookup C with
  | some ⟨.type "type", _, .cls cd, sl⟩ => (match cd.mro, sl.toList with
    | .ref C' :: bm, [_, _, _, _, some (.builtin n), _] => decide (C' = C) && decide (n = "ValueError.__new__") && (!cd.hasDel && (cd.hasDict && PySem.HandSPX.refsVE bm))
    | _, _ => false)
  | _ => false
theorem oexB_ok {K : PySem.W.Frag} {C : Addr} (h : oexB K C = true) : ∃ nm q N bs bm sn sub ab col dd k0 k1 k2 k3 k5, K.lookup C = some (excClassObj nm q C N bs bm true sn sub ab col dd k0 k1 k2 k3 k5 "ValueError.__new__") ∧ PySem.HandSPX.refsVE bm = true := by
  unfold oexB at h
  split at h
  · rename_i dd cd sl ho
    split at h
    · rename_i C' bm k0 k1 k2 k3 n k5 hm hs
      simp only [Bool.and_eq_true, decide_eq_true_eq, Bool.not_eq_true'] at h
      obtain ⟨⟨e1, e2⟩, hdel, hdict, ht⟩ := h
      subst e1 e2
      obtain ⟨nm, bs, mro, ns, qn, hd, sn, sub, ab, col, del⟩ := cd
      dsimp only at hm hdel hdict
      subst hm hdel hdict
      obtain ⟨l⟩ := sl
      dsimp only at hs
      subst hs
      exact ⟨nm, qn, ns, bs, bm, sn, sub, ab, col, dd, k0, k1, k2, k3, k5, ho, ht⟩
    · cases h
  · cases h
def cellB (K : PySem.W.Frag) (cc C : Addr) : Bool := match K.lookup cc with
  | some ⟨_, _, .cell (some (.ref a)), _⟩ => decide (a = C)
  | _ => false
theorem cellB_ok {K : PySem.W.Frag} {cc C : Addr} (h : cellB K cc C = true) : ∃ a b s, K.lookup cc = some ⟨a, b, .cell (some (.ref C)), s⟩ := by
  unfold cellB at h
  split at h
  · rename_i o1 o2 a sl e
    have := of_decide_eq_true h
    subst this
    exact ⟨_, _, _, e⟩
  · cases h
def fileB (K : PySem.W.Frag) (c : Addr) (main : Str) : Bool := match K.lookup c with
  | some ⟨_, _, .fields vs, _⟩ => (match (vs[2]? : Option Value) with
    | some (Value.str file _) => main == file
    | _ => false)
  | _ => false
theorem fileB_ok {K : PySem.W.Frag} {c : Addr} {main : Str} (h : fileB K c main = true) : ∃ a b vs s file tf, K.lookup c = some ⟨a, b, .fields vs, s⟩ ∧ vs[2]? = some (.str file tf) ∧ (main == file) = true := by
  unfold fileB at h
  split at h
  · rename_i o1 o2 vs sl e
    split at h
    · rename_i file tf hv
      exact ⟨_, _, vs, _, file, tf, e, hv, h⟩
    · cases h
  · cases h
def fnB (K : PySem.W.Frag) (C : Addr) (main : Str) (f : Addr) : Bool := match K.lookup f with
  | some ⟨_, _, .func fd, _⟩ => (match fd.closure, fd.code, fd.defaults, fd.kwdefaults, fd.annotations with
    | [(_, cc)], .ref c, .none, .none, none => cellB K cc C && (fileB K c main && PySem.W.codeIn K (.ref c) fd.qualname)
    | _, _, _, _, _ => false)
  | _ => false
def clsB (K : PySem.W.Frag) (C : Addr) : Bool := match PySem.W.clsIn K C with
  | some cd => decide (PySem.W.alongIn K "__init__" ((cd.mro.dropWhile (· != .ref C)).drop 1) = some (some (.builtin "ValueError.__init__")))
  | none => false
/-- the class x, whose begin keeps the field fl -/
def errB (main : Str) (x fl : Str) (K : PySem.W.Frag) : Bool :=
  oexB K (He.ga K x) && (He.eqO (PySem.W.nsIn K mainGlobals x) (some (some (.ref (He.ga K x)))) && (He.eqO (PySem.W.findIn K (.ref (He.ga K x)) "__setattr__") (some (some (.builtin "object.__setattr__"))) && (decide (PySem.W.subIn K (.ref (He.ga K x)) (.type "BaseException") = some true) && (decide (PySem.W.typeIn K (.ref (He.ga K x)) = some (.type "type")) && (PySem.W.keepIn K (.ref (He.ga K x)) &&
    (He.eqO (PySem.W.findIn K (.ref (He.ga K x)) "__init__") (some (some (.ref (iniA K x)))) && (decide (PySem.W.typeIn K (.ref (iniA K x)) = some (.type "function")) && (He.eqO (PySem.W.findIn K (.ref (He.ga K x)) fl) (some none) && (fnB K (He.ga K x) main (iniA K x) && (clsB K (He.ga K x) && (decide (PySem.W.mroIn K (He.ga K x) (.ref (He.ga K x)) = some true) &&
      (decide (PySem.W.subIn K (.ref (He.ga K x)) (.type "ValueError") = some true) && He.eqO (PySem.W.nsIn K cStatics "thirdparty.any") (some none)))))))))))))
theorem supk_iniL : (defScope iniL).names.lookup ("super" : Str) = some .globalImplicit := by decide +kernel
section
variable {P : Program} {w : World} {K : PySem.W.Frag} {mg : Str → Option Value} {base : Heap}
theorem binds_ini {cdd ccl : Addr} {doc pm ctv : Value} : Binds K ((nfI cdd ccl).fd doc pm ctv) ["self", "line"] [] := by
  refine Binds.all fun us hl => ?_
  match us, hl with
  | [_, _], _ => rfl
/-- the refusals BadLines, from what the head tells -/
theorem raise_lines {h : Heap} (X : K.In h) (G : h.Ns mainGlobals mg) (e : errB P.main.file "BadLines" "line" K = true)
    (hw : iniW K "BadLines" = (some ("__init__", "BadLines.__init__", defArgs iniL, .stmts (defBody iniL), defScope iniL, mainGlobals, ["__class__"], builtinsNs) : IniW)) (hs : mg "super" = none) (ht : (P.main.scope.names.lookup ("super" : Str)).isSome = false) :
    ∃ fdI, RaiseC P w K mg base "BadLines" "line" (He.ga K "BadLines") (iniA K "BadLines") fdI := by
  obtain ⟨c1, e⟩ := He.ba e
  obtain ⟨c2, e⟩ := He.ba e
  obtain ⟨c3, e⟩ := He.ba e
  obtain ⟨c4, e⟩ := He.ba e
  obtain ⟨c5, e⟩ := He.ba e
  obtain ⟨c6, e⟩ := He.ba e
  obtain ⟨c7, e⟩ := He.ba e
  obtain ⟨c8, e⟩ := He.ba e
  obtain ⟨c9, e⟩ := He.ba e
  obtain ⟨ca, e⟩ := He.ba e
  obtain ⟨cb, e⟩ := He.ba e
  obtain ⟨cc, e⟩ := He.ba e
  obtain ⟨cd, ce⟩ := He.ba e
  have T : OexC K (He.ga K "BadLines") := ⟨oexB_ok c1, He.eqO_ok c3, of_decide_eq_true c4, of_decide_eq_true c5, c6⟩
  unfold fnB at ca
  unfold iniW at hw
  split at ca
  · rename_i oc od fd osl lk
    rw [lk] at hw
    have hw := Option.some.inj hw
    split at ca
    · rename_i cy ccl cdd hcl hcode hdef hkw han
      obtain ⟨d1, d2⟩ := He.ba ca
      obtain ⟨d4, d3⟩ := He.ba d2
      obtain ⟨name, qual, params, body, scope, globals, closure, defaults, kwd, doc, pm, ann, code, ctv, bins⟩ := fd
      simp only [Prod.mk.injEq] at hw
      obtain ⟨w1, w2, w3, w4, w5, w6, w7, w8⟩ := hw
      dsimp only at hcl hcode hdef hkw han w1 w2 w3 w4 w5 w6 w7 w8 d3
      subst hcl hcode hdef hkw han w1 w2 w3 w4 w5 w6 w8
      have w7 : cy = "__class__" := by simpa using w7
      subst w7
      have S : Xi.SupI P K mg (He.ga K "BadLines") (iniA K "BadLines") ccl (nfI cdd ccl) "line" := by
        refine ⟨⟨oc, od, osl, doc, pm, ctv, lk⟩, rfl, cellB_ok d1, fileB_ok d4, d3, ?_, of_decide_eq_true cc, of_decide_eq_true cd, He.eqO_ok ce, hs, ht, ⟨_, _, rfl, rfl⟩, sc_iniL, supk_iniL, fun doc pm ctv us hl => ?_⟩
        · unfold clsB at cb
          split at cb
          · rename_i cd2 hcd
            exact ⟨cd2, hcd, of_decide_eq_true cb⟩
          · cases cb
        · match us, hl with
          | [_, _], _ => rfl
      exact ⟨_, T, He.eqO_ok c7, of_decide_eq_true c8, ok_iniL T S lk (He.eqO_ok c9), binds_ini, PySem.W.mg_of X G (He.eqO_ok c2)⟩
    · cases ca
  · cases ca
end
end TG
namespace TG
open PySem PySem.Spec PyProof.Rows L2
def rootsI (g : Addr → Option Obj) (n : Nat) : List Addr := cStatics :: He.asD g n
abbrev fragI (g : Addr → Option Obj) (n : Nat) : PySem.W.Frag := He.frT g (rootsI g n)
section
variable (n : Nat) (fa : List He.Fa) (fn : List He.DefD) (ts : List He.Tab) (tf : List He.Defn) (ex : PySem.W.Frag → Bool) (xs : List Str) (vals : List IniW)
def seenI (K : PySem.W.Frag) (g : Addr → Option Obj) : (He.AlT × Bool) × List IniW := ((He.obsT fa fn ts K, ex K && He.tabsB g tf K), xs.map (iniW K))
def obsI (g : Addr → Option Obj) : (He.AlT × Bool) × List IniW := seenI fa fn ts tf ex xs (fragI g n) g
theorem saysI {w : World} {h : Heap} (e : obsI n fa fn ts tf ex xs h.get? = ((He.valT fn ts w, true), vals)) : He.SaysX fa fn ts tf ex w h (fragI h.get? n) ∧ xs.map (iniW (fragI h.get? n)) = vals := by
  refine ⟨?_, congrArg Prod.snd e⟩
  have e1 : He.obsT fa fn ts (fragI h.get? n) = He.valT fn ts w := congrArg (fun z : (He.AlT × Bool) × List IniW => z.1.1) e
  have e2 : (ex (fragI h.get? n) && He.tabsB h.get? tf (fragI h.get? n)) = true := congrArg (fun z : (He.AlT × Bool) × List IniW => z.1.2) e
  obtain ⟨h1, h2⟩ := He.ba e2
  have at_ : ∀ p ∈ tf, PySem.W.codeHdIn (fragI h.get? n) (He.cT (fragI h.get? n) p).1 (He.cT (fragI h.get? n) p).2 = true ∧ ∃ o, h.get? (He.cT (fragI h.get? n) p).2 = some o ∧ He.emptyTab o = true := fun p hp => by
    obtain ⟨h3, h4⟩ := He.ba (List.all_eq_true.mp h2 p hp)
    cases q : h.get? (He.cT (fragI h.get? n) p).2 with
    | none => rw [q] at h4; cases h4
    | some o => rw [q] at h4; exact ⟨h3, o, rfl, h4⟩
  exact ⟨e1, h1, fun p hp => (at_ p hp).1, fun p hp => let ⟨_, o, q, z⟩ := at_ p hp; He.frT_none q z, fun p hp => let ⟨_, o, q, z⟩ := at_ p hp; by rw [q, He.emptyTab_eq z]⟩
def hookI : PySem.W.Hook where
  α := (He.AlT × Bool) × List IniW
  obs := fun s => obsI n fa fn ts tf ex xs s.heap.get?
  val := fun w => ((He.valT fn ts w, true), vals)
  says := fun w h => ∃ K : PySem.W.Frag, K.In h ∧ He.SaysX fa fn ts tf ex w h K ∧ xs.map (iniW K) = vals
  of := fun _ s e => ⟨_, He.frT_in, saysI n fa fn ts tf ex xs vals e⟩
  keeps := fun w h h' ⟨K, hK, c, e⟩ k => ⟨K, PySem.W.Frag.In.keeps hK k, ⟨c.t, c.more, c.hd, c.out, fun p hp => k _ _ (c.empty p hp)⟩, e⟩
theorem obsI_eq {g : Addr → Option Obj} {s : Shared} (h : ∀ a, g a = s.heap.get? a) : obsI n fa fn ts tf ex xs g = (hookI n fa fn ts tf ex xs vals).obs s := by
  have e : g = s.heap.get? := funext h
  rw [e]
  rfl
end
end TG
namespace TG
open PySem L2 Gx
def WholeV (K : PySem.W.Frag) (H : Hp) (v : V) (lo hi : Int) (b : Bool) : Prop :=
  (∃ i : Int, v = .int i ∧ b = (decide (lo ≤ i) && decide (i ≤ hi))) ∨ (∃ x, v = .bl x ∧ b = false) ∨ ∃ nm : String, TyX K H v (.type nm) ∧ kitB nm "int" = some false ∧ b = false
section
variable {P : Program} {w : World} {K : PySem.W.Frag} {mg : Str → Option Value} {base : Heap} {cs : List (Addr × Addr)}
def spWhole2 (K : PySem.W.Frag) : Sp := fun vs H Q _ => ∃ (v : V) (lo hi : Int) (b : Bool), vs = [v, .int lo, .int hi] ∧ WholeV K H v lo hi b ∧ Q (.bl b) H
theorem ok_whole2 {f : Addr} {fd : FuncData} (T : Txt mg) (F : Fun K "is_whole" "is_whole" s_is_whole f fd) : FnOk P w K mg base CX0 1 f fd ["value", "low", "high"] (spWhole2 K) := by
  refine F.ok sc_whole (fun vs H Q E h => ?_) (fun cdv A outer s H vs Q E hr h => ?_)
  · obtain ⟨v, lo, hi, b, rfl, _⟩ := h
    rfl
  · obtain ⟨v, lo, hi, b, rfl, hv, k⟩ := h
    refine ⟨_, pss_one (ps_ret (pe_and (pe_callB call_isi (by rfl) T.isin (by decide +kernel) (pa_cons (pv 0) (pa_cons (pe_bltn (v := .ty "int") (by rfl) T.int (by decide +kernel) rfl) pa_nil)))
      (pe_and (pe_not (pe_callB call_isi (by rfl) T.isin (by decide +kernel) (pa_cons (pv 0) (pa_cons (pe_bltn (v := .ty "bool") (by rfl) T.bool (by decide +kernel) rfl) pa_nil)))) (pe_one (pe_chain op_le op_le (pv 1) (pv 0) (pv 2)))))), ?_⟩
    rcases hv with ⟨i, rfl, rfl⟩ | ⟨x, rfl, rfl⟩ | ⟨nm, ty, hk, rfl⟩
    · refine ⟨_, rfl, _, _, _, _, true, rfl, .ty _, .base (.int i), kit_ty (by decide +kernel), true, rfl, iteT ⟨_, rfl, _, _, _, _, false, rfl, .ty _, .base (.int i), kit_ty (by decide +kernel), false, rfl, true, rfl, iteT
        ⟨_, rfl, _, rfl, lo, i, rfl, rfl, ?_⟩⟩⟩
      by_cases h1 : lo ≤ i
      · rw [decide_eq_true h1, Bool.true_and] at k
        exact ⟨true, dT h1, iteT ⟨_, rfl, i, hi, rfl, rfl, k⟩⟩
      · rw [decide_eq_false h1, Bool.false_and] at k
        exact ⟨false, dF h1, iteF k⟩
    · exact ⟨_, rfl, _, _, _, _, true, rfl, .ty _, .base (.bl x), kit_ty (by decide +kernel), true, rfl, iteT ⟨_, rfl, _, _, _, _, true, rfl, .ty _, .base (.bl x), kit_ty (by decide +kernel), true, rfl, false, rfl, iteF k⟩⟩
    · exact ⟨_, rfl, _, _, _, _, false, rfl, .ty _, ty, kit_ty hk, false, rfl, iteF k⟩
/-- places: each one answered by bs -/
structure PlacesV (K : PySem.W.Frag) (cs : List (Addr × Addr)) (H : Hp) (xs : List V) (bs : List Bool) : Prop where
  len : xs.length = bs.length
  at_ : ∀ (i : Nat) (v : V) (b : Bool), xs[i]? = some v → bs[i]? = some b → ∀ H', Ex cs H H' → WholeV K H' v 0 200 b
def spPlaces2 (K : PySem.W.Frag) (cs : List (Addr × Addr)) : Sp := fun vs H Q _ => Tabs cs H ∧ ((∃ (v : V) (nm : String), vs = [v] ∧ TyX K H v (.type nm) ∧ kitB nm "list" = some false ∧ ∀ H', Ex cs H H' → Q (.bl false) H') ∨
  ∃ (a : Addr) (xs : List V) (bs : List Bool), vs = [.ref a] ∧ SqL K H a xs ∧ PlacesV K cs H xs bs ∧ ∀ H', Ex cs H H' → Q (.bl (bs.all id)) H')
theorem ok_places2 {f c Pt g : Addr} {fd fdg : FuncData} (T : Txt mg) (N : Consts2 mg) (F : Fun K "are_places" "are_places" s_are_places f fd) (hc : fd.code = .ref c) (TB : GxR.TabB base mg c Pt) (hm : (c, Pt) ∈ cs)
    (G : FnOk P w K mg base CX0 1 g fdg ["value", "low", "high"] (spWhole2 K)) (kp : PySem.W.keepIn K (.ref g) = true) (bd : Binds K fdg ["value", "low", "high"] []) (mgg : mg "is_whole" = some (.ref g)) : FnOk P w K mg base CX0 5 f fd ["value"] (spPlaces2 K cs) := by
  refine fun_okT F hc sc_places (fun vs H Q E h => ?_) (fun A outer s H vs Q E hr h => ?_)
  · rcases h with ⟨_, ⟨v, nm, rfl, _⟩ | ⟨a, xs, bs, rfl, _⟩⟩ <;> rfl
  · obtain ⟨hT, hv⟩ := h
    obtain ⟨t2, e2⟩ := N.far
    refine ⟨_, pss_one (ps_ret (pe_and (pe_callB call_isi (by rfl) T.isin (by decide +kernel) (pa_cons (pv 0) (pa_cons (pe_bltn (v := .ty "list") (by rfl) T.list (by decide +kernel) rfl) pa_nil)))
      (pe_one (pe_allG (k := 1) (P := Pt) hr (by rfl) T.all TB rfl ⟨rfl, rfl, by decide +kernel, by decide +kernel, rfl, rfl⟩ (pi_list (pv 0))
        (fun A' code s4 H4 fp hr' => pe_call G hr' (by rfl) mgg kp bd .nil pass0 (pa_cons (pv 0) (pa_cons pe_int (pa_cons (pe_glob (v := .int 200) rfl e2 ⟨_, rfl⟩) pa_nil)))) (fun _ => rfl))))), ?_⟩
    rcases hv with ⟨v, nm, rfl, ty, hk, k⟩ | ⟨a, xs, bs, rfl, hS, hO, k⟩
    · exact ⟨_, rfl, _, _, _, _, false, rfl, .ty _, ty, kit_ty hk, false, rfl, iteF (k _ (Ex.refl hT))⟩
    · refine ⟨_, rfl, _, _, _, _, true, rfl, .ty _, ty_list hS, kit_ty (by decide +kernel), true, rfl, iteT ?_⟩
      refine ⟨_, rfl, a, rfl, ⟨_, hS⟩, hT _ hm, fun H2 hH2 => ?_⟩
      have x2 := Ex.tabbed hT hm hH2
      have hl := hO.len
      refine all_by (w := walk_list (a := a) (xs := xs)) (fun i => match bs[i]? with | some b => b | none => true) (fun _ H' => Ex cs H H') x2 (fun i H' _ x => x.sqL hS) (fun i v H3 H4 hi x y Z hZ => ?_) (fun H3 x hall => ?_) (fun i H3 hi hff x => ?_)
      · obtain ⟨rfl, hv⟩ := y
        obtain ⟨b, hb⟩ := getP (xs := bs) (i := i) (by have := (List.getElem?_eq_some_iff.mp hv).1; omega)
        refine ⟨_, rfl, v, 0, 200, b, rfl, hO.at_ i v b hv hb _ x, ?_⟩
        have := hZ _ x
        rw [hb] at this
        exact this
      · have e : bs.all id = true := by
          rw [List.all_eq_true]
          intro b hbm
          obtain ⟨i, hi, e⟩ := List.getElem_of_mem hbm
          have q := hall i (by omega)
          rw [List.getElem?_eq_getElem hi, e] at q
          exact q
        rw [← e]
        exact k _ x
      · have e : bs.all id = false := by
          rw [Bool.eq_false_iff]
          intro q
          rw [List.all_eq_true] at q
          have hi2 : i < bs.length := by omega
          rw [List.getElem?_eq_getElem hi2] at hff
          have := q _ (List.getElem_mem hi2)
          rw [show bs[i] = false from hff] at this
          cases this
        rw [← e]
        exact k _ x
end
end TG
namespace TG
open PySem L2 Gx
theorem eqvAll_ints : ∀ a b : List Int, PyData.eqvAll (a.map PyData.int) (b.map PyData.int) = decide (a = b)
  | [], [] => rfl
  | [], _ :: _ => rfl
  | _ :: _, [] => rfl
  | x :: a, y :: b => by
    rw [List.map_cons, List.map_cons]
    simp only [PyData.eqvAll, eqvAll_ints a b]
    have e : PyData.eqv (.int x) (.int y) = decide (x = y) := by
      simp only [PyData.eqv]
      rfl
    rw [e]
    by_cases h1 : x = y
    · by_cases h2 : a = b
      · rw [decide_eq_true h1, decide_eq_true h2, decide_eq_true (by rw [h1, h2])]
        rfl
      · rw [decide_eq_true h1, decide_eq_false h2, decide_eq_false (fun z => h2 (by injection z))]
        rfl
    · have h3 : ¬ (x :: a) = (y :: b) := fun z => h1 (by injection z)
      rw [decide_eq_false h1, decide_eq_false h3, Bool.false_and]
theorem eqv_iD2 (a b : List Int) : PyData.eqv (iD a) (iD b) = decide (a = b) := by
  show PyData.eqv (.list _) (.list _) = _
  simp only [PyData.eqv]
  exact eqvAll_ints a b
section
variable {P : Program} {w : World} {K : PySem.W.Frag} {mg : Str → Option Value} {base : Heap} {cs : List (Addr × Addr)}
/-- the left ends of a line, asked: what are no places; places, from 0 on, rising or not -/
def spEnds3 (K : PySem.W.Frag) (cs : List (Addr × Addr)) : Sp := fun vs H Q _ => Tabs cs H ∧ ((∃ (v : V) (nm : String), vs = [v] ∧ TyX K H v (.type nm) ∧ kitB nm "list" = some false ∧ ∀ H', Ex cs H H' → Q (.bl false) H') ∨
  (∃ (a : Addr) (xs : List V) (bs : List Bool), vs = [.ref a] ∧ SqL K H a xs ∧ PlacesV K cs H xs bs ∧ bs.all id = false ∧ ∀ H', Ex cs H H' → Q (.bl false) H') ∨
  ∃ (a : Addr) (ns : List Int), vs = [.ref a] ∧ SqL K H a (iV ns) ∧ PlOk ns ∧ ns.length < 64 ∧ ∀ (b : Bool) (H' : Hp), (b = true ↔ ns.head? = some 0 ∧ ns.Pairwise (· ≤ ·)) → Ex cs H H' → Q (.bl b) H')
theorem ok_lends3 {f g : Addr} {fd fdg : FuncData} (hs : mg "sorted" = none) (F : Fun K "are_left_ends" "are_left_ends" s_are_left_ends f fd)
    (G : FnOk P w K mg base CX0 5 g fdg ["value"] (spPlaces2 K cs)) (kp : PySem.W.keepIn K (.ref g) = true) (bd : Binds K fdg ["value"] []) (mgg : mg "are_places" = some (.ref g)) : FnOk P w K mg base CX0 6 f fd ["value"] (spEnds3 K cs) := by
  refine F.ok sc_lends (fun vs H Q E h => ?_) (fun cdv A outer s H vs Q E hr h => ?_)
  · rcases h with ⟨_, ⟨v, nm, rfl, _⟩ | ⟨a, xs, bs, rfl, _⟩ | ⟨a, ns, rfl, _⟩⟩ <;> rfl
  · obtain ⟨hT, hv⟩ := h
    have hu := hr.units
    refine ⟨_, pss_one (ps_ret (pe_and (pe_call G hr (by rfl) mgg kp bd .nil pass0 (pa_cons (pv 0) pa_nil))
      (pe_and (pe_cmpR (op_eqD hu) (pe_slice sl_list (pv 0) po_none (po_some pe_int)) (pe_lst (pa_cons pe_int pa_nil)) (nomark _))
        (pe_one (pe_cmpR (op_eqD hu) (pv 0) (pe_callB cr_sorted (by rfl) hs (by decide +kernel) (pa_cons (pv 0) pa_nil)) (nomark _)))))), ?_⟩
    rcases hv with ⟨v, nm, rfl, ty, hk, k⟩ | ⟨a, xs, bs, rfl, hS, hO, hb, k⟩ | ⟨a, ns, rfl, hS, hO, h64, k⟩
    · exact ⟨_, rfl, hT, .inl ⟨v, nm, rfl, ty, hk, fun H1 x1 => ⟨false, rfl, iteF (k _ x1)⟩⟩⟩
    · refine ⟨_, rfl, hT, .inr ⟨a, xs, bs, rfl, hS, hO, fun H1 x1 => ⟨_, rfl, ?_⟩⟩⟩
      rw [hb]
      exact iteF (k _ x1)
    · have hO2 : PlacesV K cs H (iV ns) (List.replicate ns.length true) := ⟨by rw [List.length_map, List.length_replicate], fun i v b h1 h2 H' _ => by
        obtain ⟨n, hn, rfl⟩ := get_map h1
        have hb : b = true := (List.mem_replicate.mp (List.mem_of_getElem? h2)).2
        obtain ⟨q1, q2⟩ := hO n (List.mem_of_getElem? hn)
        exact .inl ⟨n, rfl, by rw [hb, decide_eq_true q1, decide_eq_true q2]; rfl⟩⟩
      have hall : (List.replicate ns.length true).all id = true := by
        rw [List.all_eq_true]
        intro b hb
        exact (List.mem_replicate.mp hb).2
      refine ⟨_, rfl, hT, .inr ⟨a, iV ns, _, rfl, hS, hO2, fun H1 x1 => ⟨_, rfl, ?_⟩⟩⟩
      rw [hall]
      refine iteT ?_
      simp only [tNoPart]
      have hS1 := x1.sqL hS
      refine ⟨_, rfl, 1, rfl, a, _, rfl, hS1, fun p np => ?_⟩
      have x2 := x1.trans (Ex.laid (o := .lst (cutV (iV ns) none (some 1))) x1.tab np)
      refine ⟨by decide, fun q nq => ?_⟩
      have x3 := x2.trans (Ex.laid (o := .lst [.int 0]) x2.tab nq)
      have e1 : cutV (iV ns) none (some 1) = iV (ns.take 1) := by
        rw [show (some 1 : Option Int) = some ((1 : Nat) : Int) from rfl, cut_up, iV, iV, List.map_take]
      have hp : upd (upd H1 p (.lst (cutV (iV ns) none (some 1)))) q (.lst [.int 0]) p = some (.lst (iV (ns.take 1))) := by
        rw [upd_ne (fun z => by rw [z, upd_same] at nq; cases nq), upd_same, e1]
      refine ⟨iD (ns.take 1), iD [0], dp_iD (SqL.of hp), dp_iD (SqL.of upd_same), shaped_iD _, shaped_iD _, ?_⟩
      rw [eqv_iD2]
      have hh : decide (ns.take 1 = [0]) = decide (ns.head? = some 0) := by
        cases ns with
        | nil => rfl
        | cons n ns =>
          by_cases h : n = 0
          · subst h
            rfl
          · rw [decide_eq_false (fun z => h (by simpa using z)), decide_eq_false (fun z => h (by simpa using z))]
      rw [hh]
      refine ⟨_, rfl, ?_⟩
      by_cases h0 : ns.head? = some 0
      · rw [decide_eq_true h0]
        refine iteT ⟨_, rfl, _, rfl, a, ns, rfl, x3.sqL hS, h64, fun ns' r hp1 hp2 nr => ?_⟩
        have x4 := x3.trans (Ex.laid (o := .lst (iV ns')) x3.tab nr)
        refine ⟨iD ns, iD ns', dp_iD (x4.sqL hS), dp_iD (SqL.of upd_same), shaped_iD _, shaped_iD _, ?_⟩
        rw [eqv_iD2]
        refine k _ _ ?_ x4
        rw [decide_eq_true_eq]
        constructor
        · intro e
          exact ⟨h0, by rw [e]; exact hp2⟩
        · intro e
          exact (sorted_self hp1 hp2 e.2).symm
      · rw [decide_eq_false h0]
        have hno : (false = true ↔ ns.head? = some 0 ∧ ns.Pairwise (· ≤ ·)) := by
          constructor
          · intro z
            cases z
          · intro z
            exact absurd z.1 h0
        exact iteF (k _ _ hno x3)
end
end TG
namespace TG
open PySem PySem.Spec PyProof.Rows L2 NdefX GenW Gx Lv
section
variable {P : Program} {w : World} {K : PySem.W.Frag} {mg : Str → Option Value} {base : Heap} {cs : List (Addr × Addr)}
/-- lists of which the first that can't be is m of n -/
structure BadLs (K : PySem.W.Frag) (H : Hp) (t : V) (n m : Nat) (xs : List V) (ans : Nat → Bool) : Prop where
  le : m ≤ n
  lst : ∃ a, t = .ref a ∧ SqL K H a xs
  ok : ∀ i, i < m → i < xs.length ∧ ans i = true
  bad : (m < n ∧ (xs.length ≤ m ∨ (m < xs.length ∧ ans m = false))) ∨ (m = n ∧ n < xs.length)
def spListsX (P : Program) (w : World) (K : PySem.W.Frag) (mg : Str → Option Value) (base : Heap) (cs : List (Addr × Addr)) (kl : Nat) (C : Addr) : Sp := fun vs H _ E => ∃ (t : V) (f : Addr) (n m : Nat) (F : NF) (e : Expr) (ps : List Str) (sp : Sp),
  vs = [t, .int (n : Nat), .ref f] ∧ Tabs cs H ∧ n ≤ 30 ∧ H f = some (FnL f F e) ∧ H F.c = some (LamX.CodeO F.c F.qual) ∧ LOk P w K mg base kl f F e ps sp ∧
  ((m = 0 ∧ ∃ nm : String, TyX K H t (.type nm) ∧ kitB nm "list" = some false) ∨ ∃ (xs : List V) (ans : Nat → Bool), BadLs K H t n m xs ans ∧
    ∀ (i : Nat) (x : V) (H1 : Hp) (Z : VK), i ≤ m → xs[i]? = some x → Ex cs H H1 → (∀ H2, Ex cs H1 H2 → Z (.bl (ans i)) H2) → sp [.int (i : Nat), x] H1 Z (fun _ _ _ => False)) ∧
  ∀ (d : Addr) (H' : Hp), Ex cs H H' → H d = none → H' d = some (.xd [("line", .int (m : Nat))]) → E (.ref C) (some d) H'
theorem ok_clistsX {f C fI : Addr} {fd fdI : FuncData} {kl : Nat} (T : Txt mg) (R : RaiseC P w K mg base "BadLines" "line" C fI fdI) (F : Fun K "check_lists" "check_lists" s_check_lists f fd) (hkl : 2 ≤ kl) : FnOk P w K mg base (L2.CX P w) (kl + 1) f fd ["told", "many", "fits"] (spListsX P w K mg base cs kl C) := by
  refine F.okX sc_clists (fun vs H Q E h => ?_) (fun cdv A outer s H vs Q E hr h => ?_)
  · obtain ⟨t, f, n, m, F, e, ps, sp, rfl, _⟩ := h
    rfl
  · obtain ⟨t, f, n, m, F, e, ps, sp, rfl, hT, hn2, hf, hc, L, hcase, k⟩ := h
    have nd := sc_clists.nd
    have hr2 : Room 2 _ := hr.mono hkl
    refine ⟨_, pss_cons (ps_if (pt_not (pt_val (pe_callB call_isi (by rfl) T.isin (by decide +kernel) (pa_cons (pv 0) (pa_cons (pe_bltn (v := .ty "list") (by rfl) T.list (by decide +kernel) rfl) pa_nil)))))
        (pss_one (ps_raise rfl (takes_of rfl rfl rfl rfl) (pmk_oex R.oex R.iC R.tI R.ini hr2 R.bd .nil pass0 (by rfl) R.mg_ (pa_cons pe_int pa_nil)))) pss_nil)
      (pss_cons (ps_for (passes_of rfl) rfl (pi_range1 (by rfl) T.range (pa_cons (pv 1) pa_nil)) (pg_name (i := 3) nd rfl (.inl rfl))
        (pss_one (ps_if (PW.pt (pw_or (pt_cmpR op_ge (pv 3) (pe_callB call_len_seq (by rfl) T.len PySem.boot_len (pa_cons (pv 0) pa_nil)) (nomark _))
          (pw_or1 (pt_not (pt_val (pe_callV (k := kl) (i := 2) hr pass0 rfl (by first | exact Or.inl rfl | exact Or.inr (Or.inl rfl) | exact Or.inr (Or.inr rfl)) (pa_cons (pv 3) (pa_cons (pe_ix ix_list (pv 0) (pv 3) (fun _ _ => rfl)) pa_nil))))))))
          (pss_one (ps_raise rfl (takes_of rfl rfl rfl rfl) (pmk_oex R.oex R.iC R.tI R.ini hr2 R.bd .nil pass0 (by rfl) R.mg_ (pa_cons (pv 3) pa_nil)))) pss_nil)))
      (pss_one (ps_if (pt_cmpR op_gt (pe_callB call_len_seq (by rfl) T.len PySem.boot_len (pa_cons (pv 0) pa_nil)) (pv 1) (nomark _))
        (pss_one (ps_raise rfl (takes_of rfl rfl rfl rfl) (pmk_oex R.oex R.iC R.tI R.ini hr2 R.bd .nil pass0 (by rfl) R.mg_ (pa_cons (pv 1) pa_nil)))) pss_nil))), ?_⟩
    rcases hcase with ⟨rfl, nm, ty, hk⟩ | ⟨xs, ans, hB, hsp⟩
    · refine ⟨_, rfl, _, _, _, _, false, rfl, .ty _, ty, kit_ty hk, false, rfl, iteT ?_⟩
      exact raise_go (n := 0) hT (by omega) (by omega) (fun Q q => q) k
    · obtain ⟨a, rfl, hS⟩ := hB.lst
      have hm := hB.le
      refine ⟨_, rfl, _, _, _, _, true, rfl, .ty _, ty_list hS, kit_ty (by decide +kernel), true, rfl, iteF ?_⟩
      refine ⟨_, rfl, _, rfl, by omega, by omega, for_range (n := (n : Int).toNat) (fun i σ H' => i ≤ m ∧ Ex cs H H' ∧ ∃ c, σ = [some (.ref a), some (.int (n : Nat)), some (.ref f), c]) ⟨Nat.zero_le _, Ex.refl hT, _, rfl⟩ ?_ ?_⟩
      · rintro i σ H1 hi ⟨him, x1, c, rfl⟩
        by_cases hlt : i < m
        · obtain ⟨hi2, ha⟩ := hB.ok i hlt
          obtain ⟨x, hx⟩ := getP hi2
          refine ⟨_, rfl, _, rfl, a, _, rfl, .inl (x1.sqL hS), _, _, rfl, rfl, false, dF (by omega), iteF ?_⟩
          refine ⟨f, F, e, ps, sp, rfl, ex_fn x1 hf, L, _, rfl, _, rfl, _, rfl, a, _, _, x, rfl, rfl, x1.sqL hS, by rw [Int.zero_add]; exact atI_nat hx, ex_fn x1 hf, ex_code x1 hc, ?_⟩
          rw [Int.zero_add]
          refine hsp i x H1 _ (by omega) hx x1 fun H2 x2 => ⟨_, rfl, ?_⟩
          rw [ha]
          exact iteF ⟨by omega, x1.trans x2, _, rfl⟩
        · have eim : i = m := by omega
          subst eim
          have hbad : i < n ∧ (xs.length ≤ i ∨ (i < xs.length ∧ ans i = false)) := by
            rcases hB.bad with q | q
            · exact q
            · omega
          rcases hbad.2 with hlen | ⟨hi2, ha⟩
          · refine ⟨_, rfl, _, rfl, a, _, rfl, .inl (x1.sqL hS), _, _, rfl, rfl, true, dT (by omega), iteT (iteT ?_)⟩
            refine raise_go (n := (0 + (i : Nat) : Int)) x1.tab (by omega) (by omega) (fun Q q => ⟨_, rfl, q⟩) fun d H' x2 nd2 hd2 => ?_
            rw [Int.zero_add] at hd2
            exact k d H' (x1.trans x2) (x1.old _ nd2) hd2
          · obtain ⟨x, hx⟩ := getP hi2
            refine ⟨_, rfl, _, rfl, a, _, rfl, .inl (x1.sqL hS), _, _, rfl, rfl, false, dF (by omega), iteF ?_⟩
            refine ⟨f, F, e, ps, sp, rfl, ex_fn x1 hf, L, _, rfl, _, rfl, _, rfl, a, _, _, x, rfl, rfl, x1.sqL hS, by rw [Int.zero_add]; exact atI_nat hx, ex_fn x1 hf, ex_code x1 hc, ?_⟩
            rw [Int.zero_add]
            refine hsp i x H1 _ (by omega) hx x1 fun H2 x2 => ⟨_, rfl, ?_⟩
            rw [ha]
            refine iteT ?_
            refine raise_go (n := ((i : Nat) : Int)) x2.tab (by omega) (by omega) (fun Q q => ⟨_, rfl, q⟩) fun d H' x3 nd3 hd3 => ?_
            exact k d H' ((x1.trans x2).trans x3) ((x1.trans x2).old _ nd3) hd3
      · rintro σ H' ⟨him, x, c, rfl⟩
        rcases hB.bad with q | ⟨q1, q2⟩
        · omega
        · subst q1
          refine ⟨_, rfl, a, _, rfl, .inl (x.sqL hS), _, rfl, _, _, rfl, rfl, true, dT (by omega), iteT ?_⟩
          refine raise_go (n := ((m : Nat) : Int)) x.tab (by omega) (by omega) (fun Q q => ⟨_, rfl, q⟩) fun d H2 x3 nd3 hd3 => ?_
          exact k d H2 (x.trans x3) (x.old _ nd3) hd3
end
end TG
namespace TG
open PySem PySem.Spec PyProof.Rows L2
abbrev cellF (o : Obj) : HO := .frz o (.own 0)
def addC (H : Hp) (cl : List (Addr × Obj)) : Hp := fun b => match cl.lookup b with
  | some o => some (cellF o)
  | none => H b
def delC (H : Hp) (cl : List (Addr × Obj)) : Hp := fun b => match cl.lookup b with
  | some _ => none
  | none => H b
theorem addC_in {H : Hp} {cl : List (Addr × Obj)} {b : Addr} {o : Obj} (h : cl.lookup b = some o) : addC H cl b = some (cellF o) := by unfold addC; rw [h]
theorem addC_out {H : Hp} {cl : List (Addr × Obj)} {b : Addr} (h : cl.lookup b = none) : addC H cl b = H b := by unfold addC; rw [h]
theorem delC_in {H : Hp} {cl : List (Addr × Obj)} {b : Addr} {o : Obj} (h : cl.lookup b = some o) : delC H cl b = none := by unfold delC; rw [h]
theorem delC_out {H : Hp} {cl : List (Addr × Obj)} {b : Addr} (h : cl.lookup b = none) : delC H cl b = H b := by unfold delC; rw [h]
section
variable {P : Program} {w : World}
theorem objOk_congr {H1 H2 : Hp} {h : Heap} {a : Addr} (k : ∀ b o, H1 b = some o → (∀ u v, o ≠ .frz u v) → H2 b = some o) : ∀ u : HO, ObjOk P w H1 h a u → ObjOk P w H2 h a u
  | .lst _, x => x
  | .tup _, x => x
  | .dK _, x => x
  | .dT _, ⟨x1, x2, xs, x3, x4⟩ => ⟨x1, x2, xs, x3.mono fun p q ⟨e1, e2, e3⟩ => ⟨e1, k _ _ e2 (fun u v z => by cases z), e3⟩, x4⟩
  | .set _ _, x => x
  | .ins _ _ _, ⟨x1, x2⟩ => ⟨k _ _ x1 (fun u v z => by cases z), x2⟩
  | .own _, x => x
  | .xd _, x => x
  | .rng _ _, x => x
  | .frz _ u, ⟨x1, x2⟩ => ⟨x1, objOk_congr k u x2⟩
  | .tbl _, x => x
  | .met _ _, x => x
  | .ext _, x => x
/-- the cells stand as they are told, and were untold -/
structure CellsIn (cl : List (Addr × Obj)) (base : Heap) (fs : List Addr) (h : Heap) : Prop where
  at_ : ∀ c o, cl.lookup c = some o → h.get? c = some o ∧ base.get? c = none ∧ c ∉ fs
theorem hok_add {H : Hp} {h : Heap} {cl : List (Addr × Obj)} (hk : HOk P w H h) (n : ∀ c o, cl.lookup c = some o → H c = none ∧ h.get? c = some o) : HOk P w (addC H cl) h := fun a o e => by
  cases q : cl.lookup a with
  | some u =>
    rw [addC_in q] at e
    cases e
    exact ⟨(n a u q).2, ⟨u, (n a u q).2⟩⟩
  | none =>
    rw [addC_out q] at e
    refine objOk_congr (fun b v hb _ => ?_) o (hk a o e)
    cases r : cl.lookup b with
    | some u => rw [(n b u r).1] at hb; cases hb
    | none => rw [addC_out r]; exact hb
theorem hok_del {H : Hp} {h : Heap} {cl : List (Addr × Obj)} (hk : HOk P w H h) (n : ∀ c o, cl.lookup c = some o → H c = some (cellF o)) : HOk P w (delC H cl) h := fun a o e => by
  cases q : cl.lookup a with
  | some u => rw [delC_in q] at e; cases e
  | none =>
    rw [delC_out q] at e
    refine objOk_congr (fun b v hb nf => ?_) o (hk a o e)
    cases r : cl.lookup b with
    | some u =>
      rw [n b u r] at hb
      cases hb
      exact absurd rfl (nf _ _)
    | none => rw [delC_out r]; exact hb
variable {K : PySem.W.Frag} {mg : Str → Option Value} {base : Heap} {A : Around} {outer : List Env} {s s' : Shared}
/-- told of: as a callee finds it -/
theorem env_add {H : Hp} {cl : List (Addr × Obj)} (e0 : Env0 P w K mg base A outer s H) (C : CellsIn cl base (frs outer) s.heap) (n : ∀ c o, cl.lookup c = some o → H c = none) : Env0 P w K mg base A outer s (addC H cl) := by
  refine ⟨e0.frames, e0.mod, fun b o hb => ⟨(e0.bs b o hb).1, ?_⟩, e0.bsz, e0.funs, fun b hb => ?_, hok_add e0.hok fun c o q => ⟨n c o q, (C.at_ c o q).1⟩, e0.bare⟩
  · cases r : cl.lookup b with
    | some u => rw [(C.at_ b u r).2.1] at hb; cases hb
    | none => rw [addC_out r]; exact (e0.bs b o hb).2
  · cases r : cl.lookup b with
    | some u => exact absurd hb (C.at_ b u r).2.2
    | none => rw [addC_out r]; exact e0.frf b hb
/-- untold of: as the frame that has the cells finds it -/
theorem env_del {H : Hp} {cl : List (Addr × Obj)} (e0 : Env0 P w K mg base A outer s H) (n : ∀ c o, cl.lookup c = some o → H c = some (cellF o)) : Env0 P w K mg base A outer s (delC H cl) := by
  refine ⟨e0.frames, e0.mod, fun b o hb => ⟨(e0.bs b o hb).1, ?_⟩, e0.bsz, e0.funs, fun b hb => ?_, hok_del e0.hok n, e0.bare⟩
  · cases r : cl.lookup b with
    | some u => exact delC_in r
    | none => rw [delC_out r]; exact (e0.bs b o hb).2
  · cases r : cl.lookup b with
    | some u => exact delC_in r
    | none => rw [delC_out r]; exact e0.frf b hb
theorem un_del {fs : List Addr} {H H' : Hp} {h h' : Heap} {cl : List (Addr × Obj)} (u : Un fs [] (addC H cl) H' h h') (hk : HOk P w H' h') (n : ∀ c o, cl.lookup c = some o → H c = none ∧ h.get? c = some o ∧ c ∉ fs) : Un fs [] H (delC H' cl) h h' := by
  have told : ∀ c o, cl.lookup c = some o → H' c = some (cellF o) := fun c o q => u.frzs c o _ (addC_in q)
  have out : ∀ {b : Addr} {o : HO}, H b = some o → cl.lookup b = none := fun {b o} hb => by
    cases r : cl.lookup b with
    | some v => rw [(n b v r).1] at hb; cases hb
    | none => rfl
  refine ⟨fun b o hb nb hf hx => ?_, fun b o hb nb hf hx => ?_, fun b o hb nb hx => ?_, fun b o hb hx => u.there b o hb hx, fun b xs hb => ?_, fun b o v hb => ?_, fun b ps hb => ?_⟩
  · cases r : cl.lookup b with
    | some v =>
      rw [(n b v r).2.1] at hb
      cases hb
      exact (hk b _ (told b _ r)).1
    | none => exact u.keep b o hb (by rw [addC_out r]; exact nb) hf hx
  · cases r : cl.lookup b with
    | some v => exact absurd hf (n b v r).2.2
    | none => exact u.slot b o hb (by rw [addC_out r]; exact nb) hf hx
  · cases r : cl.lookup b with
    | some v => exact delC_in r
    | none => rw [delC_out r]; exact u.free b o hb (by rw [addC_out r]; exact nb) hx
  · rw [delC_out (out hb)]
    exact u.tups b xs (by rw [addC_out (out hb)]; exact hb)
  · rw [delC_out (out hb)]
    exact u.frzs b o v (by rw [addC_out (out hb)]; exact hb)
  · obtain ⟨more, q⟩ := u.tbls b ps (by rw [addC_out (out hb)]; exact hb)
    exact ⟨more, by rw [delC_out (out hb)]; exact q⟩
/-- back from a callee that was told of the cells -/
theorem ce_del {H : Hp} {cl : List (Addr × Obj)} {Q : VK} {u : Value} (C : CellsIn cl base (frs outer) s.heap) (n : ∀ c o, cl.lookup c = some o → H c = none) (h : CE outer P w (addC H cl) s (fun v H' => (∀ c o, cl.lookup c = some o → H' c = some (cellF o)) → Q v (delC H' cl)) u s') : CE outer P w H s Q u s' := by
  obtain ⟨v, H', h1, h2, un, hk, r, q⟩ := h
  have told : ∀ c o, cl.lookup c = some o → H' c = some (cellF o) := fun c o e => un.frzs c o _ (addC_in e)
  exact ⟨v, delC H' cl, h1, h2, un_del un hk (fun c o e => ⟨n c o e, (C.at_ c o e).1, (C.at_ c o e).2.2⟩), hok_del hk told, r, q told⟩
theorem un_add {fs : List Addr} {H H' : Hp} {h h' : Heap} {cl : List (Addr × Obj)} (u : Un fs [] (delC H cl) H' h h') (n : ∀ c o, cl.lookup c = some o → H c = some (cellF o) ∧ h.get? c = some o ∧ c ∉ fs) : Un fs [] H (addC H' cl) h h' := by
  have frz : ∀ {b : Addr} {o : HO}, H b = some o → (∀ a v, o ≠ .frz a v) → cl.lookup b = none := fun {b o} hb nf => by
    cases r : cl.lookup b with
    | some v =>
      rw [(n b v r).1] at hb
      cases hb
      exact absurd rfl (nf _ _)
    | none => rfl
  refine ⟨fun b o hb nb hf hx => ?_, fun b o hb nb hf hx => ?_, fun b o hb nb hx => ?_, fun b o hb hx => u.there b o hb hx, fun b xs hb => ?_, fun b o v hb => ?_, fun b ps hb => ?_⟩
  · cases r : cl.lookup b with
    | some v => rw [(n b v r).1] at nb; cases nb
    | none => exact u.keep b o hb (by rw [delC_out r]; exact nb) hf hx
  · cases r : cl.lookup b with
    | some v => rw [(n b v r).1] at nb; cases nb
    | none => exact u.slot b o hb (by rw [delC_out r]; exact nb) hf hx
  · cases r : cl.lookup b with
    | some v => rw [(n b v r).1] at nb; cases nb
    | none => rw [addC_out r]; exact u.free b o hb (by rw [delC_out r]; exact nb) hx
  · have r := frz hb fun a v z => by cases z
    rw [addC_out r]
    exact u.tups b xs (by rw [delC_out r]; exact hb)
  · cases r : cl.lookup b with
    | some q =>
      rw [(n b q r).1] at hb
      rw [addC_in r]
      exact hb
    | none =>
      rw [addC_out r]
      exact u.frzs b o v (by rw [delC_out r]; exact hb)
  · have r := frz hb fun a v z => by cases z
    obtain ⟨more, q⟩ := u.tbls b ps (by rw [delC_out r]; exact hb)
    exact ⟨more, by rw [addC_out r]; exact q⟩
/-- behind the frame that has the cells: they are told of again -/
theorem ce_add {H : Hp} {cl : List (Addr × Obj)} {Q : VK} {u : Value} (hk0 : HOk P w H s.heap) (n : ∀ c o, cl.lookup c = some o → H c = some (cellF o) ∧ c ∉ frs outer) (h : CE outer P w (delC H cl) s (fun v H' => (∀ c o, cl.lookup c = some o → H' c = none) → Q v (addC H' cl)) u s') : CE outer P w H s Q u s' := by
  obtain ⟨v, H', h1, h2, un, hk, r, q⟩ := h
  have at0 : ∀ c o, cl.lookup c = some o → s.heap.get? c = some o := fun c o e => (hk0 c _ (n c o e).1).1
  refine ⟨v, addC H' cl, h1, h2, un_add un fun c o e => ⟨(n c o e).1, at0 c o e, (n c o e).2⟩, hok_add hk fun c o e => ?_, r, q fun c o e => un.free c o (at0 c o e) (delC_in e) (by simp)⟩
  exact ⟨un.free c o (at0 c o e) (delC_in e) (by simp), un.keep c o (at0 c o e) (delC_in e) (n c o e).2 (by simp)⟩
theorem cx_add {H : Hp} {cl : List (Addr × Obj)} {E : XK} {u : Value} (hk0 : HOk P w H s.heap) (n : ∀ c o, cl.lookup c = some o → H c = some (cellF o) ∧ c ∉ frs outer) (h : L2.CX P w outer (delC H cl) s (fun cls d H' => (∀ c o, cl.lookup c = some o → H' c = none) → E cls d (addC H' cl)) u s') : L2.CX P w outer H s E u s' := by
  obtain ⟨a, B, H', cls, d, e1, fly, hk, ub, na, h1, h2, q⟩ := h
  have at0 : ∀ c o, cl.lookup c = some o → s.heap.get? c = some o := fun c o e => (hk0 c _ (n c o e).1).1
  have atB : ∀ c o, cl.lookup c = some o → B.get? c = some o := fun c o e => ub.keep c o (at0 c o e) (delC_in e) (n c o e).2
  have frz : ∀ {b : Addr} {o : HO}, H b = some o → (∀ a v, o ≠ .frz a v) → cl.lookup b = none := fun {b o} hb nf => by
    cases r : cl.lookup b with
    | some v =>
      rw [(n b v r).1] at hb
      cases hb
      exact absurd rfl (nf _ _)
    | none => rfl
  refine ⟨a, B, addC H' cl, cls, d, e1, fly, hok_add hk fun c o e => ⟨ub.free c o (at0 c o e) (delC_in e), atB c o e⟩, ⟨fun b o hb nb hf => ?_, ub.slot, fun b o hb nb => ?_, ub.there, fun b xs hb => ?_, fun b o v hb => ?_, fun b ps hb => ?_⟩, ?_, h1, h2, q fun c o e => ub.free c o (at0 c o e) (delC_in e)⟩
  · cases r : cl.lookup b with
    | some v => rw [(n b v r).1] at nb; cases nb
    | none => exact ub.keep b o hb (by rw [delC_out r]; exact nb) hf
  · cases r : cl.lookup b with
    | some v => rw [(n b v r).1] at nb; cases nb
    | none => rw [addC_out r]; exact ub.free b o hb (by rw [delC_out r]; exact nb)
  · have r := frz hb fun a v z => by cases z
    rw [addC_out r]
    exact ub.tups b xs (by rw [delC_out r]; exact hb)
  · cases r : cl.lookup b with
    | some q =>
      rw [(n b q r).1] at hb
      rw [addC_in r]
      exact hb
    | none =>
      rw [addC_out r]
      exact ub.frzs b o v (by rw [delC_out r]; exact hb)
  · have r := frz hb fun a v z => by cases z
    obtain ⟨more, q⟩ := ub.tbls b ps (by rw [delC_out r]; exact hb)
    exact ⟨more, by rw [addC_out r]; exact q⟩
  · cases r : cl.lookup a with
    | some v =>
      have z := fly.2.1
      rw [atB a v r] at z
      cases z
    | none => rw [addC_out r]; exact na
end
end TG
namespace TG
open PySem PySem.Spec PyProof.Rows L2 NdefX GenW Gx Lv
/-- the captured names' cells, told of, hold these values -/
structure Caught (F : NF) (fr : List Str) (ws : List (Option V)) (cl : List (Addr × Obj)) (H : Hp) : Prop where
  len : ws.length = fr.length
  told : ∀ c o, cl.lookup c = some o → H c = some (cellF o)
  all : ∀ y c, F.cl.lookup y = some c → ∃ o v, cl.lookup c = some o ∧ o.data = .cell v
  inj : ∀ x y c, F.cl.lookup x = some c → F.cl.lookup y = some c → x = y
  has : ∀ (i : Nat) (y : Str), fr[i]? = some y → ∃ c, F.cl.lookup y = some c ∧ ∀ v, ws[i]? = some (some v) → ∃ o u, cl.lookup c = some o ∧ o.data = .cell (some u) ∧ RelV v u
section
variable {P : Program} {w : World} {K : PySem.W.Frag} {mg : Str → Option Value} {base : Heap}
structure LOkX (P : Program) (w : World) (K : PySem.W.Frag) (mg : Str → Option Value) (base : Heap) (k : Nat) (f : Addr) (F : NF) (e : Expr) (sp : Sp) : Prop where
  run : ∀ (A : Around) (outer : List Env) (s : Shared) (H : Hp) (Q : VK) (E : XK), Room k A → Env0 P w K mg base A outer s H → H f = some (FnL f F e) → H F.c = some (LamX.CodeO F.c F.qual) → sp [] H Q E →
    codeAny (model P w) A (.call (.ref f) ⟨[], []⟩) (CR (L2.CX P w) outer P w H s Q E) s
theorem lokx_of {k : Nat} {f : Addr} {F : NF} {e : Expr} {N fr : List Str} {sp : Sp} (S : NScope N [] fr F.scope) (hb : ∀ (pm ctv : Value), bindArgs (PySem.W.kla_fn F.name F.qual F.params e F.scope F.cl pm (.ref F.c) ctv) ⟨[], []⟩ = pure [])
    (hbody : ∀ (A : Around) (outer : List Env) (s : Shared) (H : Hp) (Q : VK) (E : XK), Room k (A.deeper (envF F f s.heap.objs.size)) → sp [] H Q E → ∃ (ws : List (Option V)) (cl : List (Addr × Obj)) (t : TE), Caught F fr ws cl H ∧
      PE (ncx (L2.CX P w) P w K mg base N F f A outer s (delC H cl) (fun cls d H' => (∀ c o, cl.lookup c = some o → H' c = none) → E cls d (addC H' cl))) e t ∧ t (startF N [] ws) (delC H cl) (fun v H' => (∀ c o, cl.lookup c = some o → H' c = none) → Q v (addC H' cl))) :
    LOkX P w K mg base (k + 1) f F e sp := by
  refine ⟨fun A outer s H Q E hr e0 hf hc hsp => ?_⟩
  have lim : s.heap.NoLimit := e0.mod.nolimit.keeps fun b o q => (e0.bs b o q).1
  obtain ⟨od, sl, pm, ctv, ho⟩ := fnL_at e0.hok hf
  obtain ⟨ws, cl, t, C, ht, hq⟩ := hbody A outer s H Q E (hr.deeper _) hsp
  have hnf : ∀ c o, cl.lookup c = some o → c ∉ frs outer := fun c o q hb => by
    have z := e0.frf c hb
    rw [C.told c o q] at z
    cases z
  have at0 : ∀ c o, cl.lookup c = some o → s.heap.get? c = some o := fun c o q => (e0.hok c _ (C.told c o q)).1
  refine codeAny_mono (R := CR (L2.CX P w) outer P w (delC H cl) s (fun v H' => (∀ c o, cl.lookup c = some o → H' c = none) → Q v (addC H' cl)) (fun cls d H' => (∀ c o, cl.lookup c = some o → H' c = none) → E cls d (addC H' cl))) ?_ fun r s' q => ?_
  · have e1 := env_del e0 C.told
    refine PySem.W.kla_callFunE hr.depth ho rfl S.co S.gen rfl (codeO_at e0.hok hc) ?_
    rw [hb pm ctv]
    refine wpAny_pure (wpAny_newFunctionEnv S.nocell (fun ⟨n, _⟩ hy => by cases hy) (fun h₁ hns hsb => ⟨lim.fresh _ hsb, ?_⟩) S.kind)
    have kp : ∀ b o, s.heap.get? b = some o → h₁.get? b = some o := fun b o q => hsb.extBut b o (Nat.ne_of_lt (Heap.lt_size q)) (Heap.get?_push_of_some _ q)
    have CA : NdefX.CellsAt F.cl fr ws s.heap (delC H cl) := by
      refine ⟨C.len, fun y c q => ?_, C.inj, fun i y q => ?_⟩
      · obtain ⟨o, v, h1, h2⟩ := C.all y c q
        exact ⟨delC_in h1, v, o, at0 c o h1, h2⟩
      · obtain ⟨c, h1, h2⟩ := C.has i y q
        refine ⟨c, h1, fun v hv => ?_⟩
        obtain ⟨o, u, h3, h4, h5⟩ := h2 v hv
        exact ⟨u, h5, o, at0 c o h3, h4⟩
    have I := inv_startN (CX := L2.CX P w) (P := P) (w := w) (E := fun cls d H' => (∀ c o, cl.lookup c = some o → H' c = none) → E cls d (addC H' cl)) (f := f) (tk := s.toks + (([] : List Str).zip ([] : List Value)).length) S hr.hd e1 (vs := []) (us := []) rfl .nil CA hns kp
    refine PySem.W.kla_codeExpr (wpAny_mono (ht.run [] _ (startF N [] ws) (delC H cl) _ I hq) (fun v s' q => ?_) fun e' s' q => q)
    obtain ⟨w', H', J, rv, q⟩ := q
    exact ⟨w', H', J.os, J.bare, J.base, J.hok, rv, q⟩
  · cases r with
    | error er => exact cx_add e0.hok (fun c o q => ⟨C.told c o q, hnf c o q⟩) q
    | ok fl =>
      cases fl with
      | ret u => exact ce_add e0.hok (fun c o q => ⟨C.told c o q, hnf c o q⟩) q
      | next => exact False.elim q
      | brk => exact False.elim q
      | cont => exact False.elim q
end
end TG
namespace TG
open PySem PySem.Spec PyProof.Rows L2 NdefX GenW Gx Lv
structure ToldC (cells : List (Str × Addr)) (N names : List Str) (σ : L2.St) (cl : List (Addr × Obj)) : Prop where
  all : ∀ y ∈ names, ∃ c o v, cells.lookup y = some c ∧ cl.lookup c = some o ∧ o.data = .cell v
  val : ∀ y ∈ names, ∀ c o, cells.lookup y = some c → cl.lookup c = some o → ∀ (i : Nat) (v : V), N[i]? = some y → σ[i]? = some (some v) → ∃ u, o.data = .cell (some u) ∧ RelV v u
  inj : ∀ y z c, cells.lookup y = some c → cells.lookup z = some c → y = z
theorem cells_list {h : Heap} {cells : List (Str × Addr)} : ∀ names : List Str, (∀ y ∈ names, ∃ c v, cells.lookup y = some c ∧ h.IsCell c v) →
    ∃ cl : List (Addr × Obj), (∀ c o, cl.lookup c = some o → h.get? c = some o ∧ ∃ y ∈ names, cells.lookup y = some c) ∧ ∀ y ∈ names, ∀ c, cells.lookup y = some c → ∃ o, cl.lookup c = some o
  | [], _ => ⟨[], ⟨fun c o e => by simp at e, fun y hy => by simp at hy⟩⟩
  | y :: names, k => by
    obtain ⟨cl, h1, h2⟩ := cells_list names fun z hz => k z (List.mem_cons_of_mem _ hz)
    obtain ⟨c, v, e1, o, e2, _⟩ := k y List.mem_cons_self
    refine ⟨(c, o) :: cl, fun c' o' e => ?_, fun z hz c' e => ?_⟩
    · rw [List.lookup_cons] at e
      by_cases q : c' = c
      · rw [q, beq_self_eq_true] at e
        cases e
        rw [q]
        exact ⟨e2, y, List.mem_cons_self, e1⟩
      · rw [beq_false_of_ne q] at e
        obtain ⟨g1, z, hz, g2⟩ := h1 c' o' e
        exact ⟨g1, z, List.mem_cons_of_mem _ hz, g2⟩
    · rw [List.lookup_cons]
      by_cases q : c' = c
      · rw [q, beq_self_eq_true]
        exact ⟨o, rfl⟩
      · rw [beq_false_of_ne q]
        rcases List.mem_cons.mp hz with r | r
        · rw [r, e1] at e
          exact absurd (Option.some.inj e).symm q
        · exact h2 z r c' e
def tCallC (cells : List (Str × Addr)) (N names : List Str) (sp : Sp) (t : TA) : TE := fun σ H Q => t σ H fun vs H1 => ∀ cl : List (Addr × Obj), ToldC cells N names σ cl → (∀ c o, cl.lookup c = some o → H1 c = none) →
  sp vs (addC H1 cl) (fun v H' => (∀ c o, cl.lookup c = some o → H' c = some (cellF o)) → Q v (delC H' cl)) (fun _ _ _ => False)
theorem pe_callC {X : Cx} {names : List Str} {k : Nat} {f : Addr} {fd : FuncData} {ps : List Str} {sp : Sp} {x : Str} {p pos : Pos} {e : Expr} {es : List Expr} {t : TA} (F : FnOk X.prog X.w X.K X.mg X.base CX0 k f fd ps sp) (hr : Room k X.A) (hg : Gl X x) (hm : X.mg x = some (.ref f)) (hk : PySem.W.keepIn X.K (.ref f) = true) (hb : Binds X.K fd ps [])
    (hfn : ∀ y ∈ names, X.fn y = true) (hcell : ∀ y ∈ names, X.env.kindOf y = some .cell) (ha : PA X (e :: es) t) (hdb : (x == ("__debug__" : Str)) = false := by decide) (he : starEach (e :: es) X.env = (false, eval e X.env) :: starEach es X.env := by rfl) (hpl : (backTo pos (starEach es X.env)).any (·.1) = false := by rfl) :
    PE X (.Call (.Name x p) (e :: es) [] pos) (tCallC X.env.cells X.N names sp t) := by
  refine ⟨fun pins s σ H Q I h => ?_⟩
  refine wpAny_Call_Name_kw (ld_glob I hg hm ?_ hdb)
  refine PySem.W.callWith_K (h₀ := X.base) I.ok.mod.kin hk (thn (ha.run pos pins s σ H _ I h) fun us s1 ⟨vs, H1, I1, r, q⟩ => ⟨I1.kIn, ?_⟩) he hpl
  show wpAny _ _ (call (.ref f) us) _ _ _
  have has : ∀ y ∈ names, ∃ c v, X.env.cells.lookup y = some c ∧ s1.heap.IsCell c v := fun y hy => by
    obtain ⟨c, hc⟩ := I1.ok.has y (.inl (hcell y hy))
    obtain ⟨v, hv⟩ := I1.cell y c hc
    exact ⟨c, v, hc, hv⟩
  obtain ⟨cl, c1, c2⟩ := cells_list names has
  have un : ∀ c o, cl.lookup c = some o → H1 c = none := fun c o e => by
    obtain ⟨_, y, _, hc⟩ := c1 c o e
    exact I1.freeC y c hc
  have C : CellsIn cl X.base (frs X.stack) s1.heap := ⟨fun c o e => by
    obtain ⟨g1, y, hy, hc⟩ := c1 c o e
    have ge := I1.ok.cab y c (hfn y hy) hc
    refine ⟨g1, ?_, fun hin => ?_⟩
    · cases z : X.base.get? c with
      | none => rfl
      | some u => exact absurd (Nat.lt_of_lt_of_le (Heap.lt_size (I1.ok.bs c u z).1) ge) (Nat.lt_irrefl _)
    · rcases List.mem_cons.mp (I1.stkSub c hin) with z | z
      · obtain ⟨m, hn, _⟩ := I1.loc
        obtain ⟨v, o2, q1, q2⟩ := I1.cell y c hc
        rw [z] at q1
        obtain ⟨o3, es3, ep3, q3, q4, _⟩ := hn
        rw [q1] at q3
        cases q3
        rw [q2] at q4
        cases q4
      · obtain ⟨_, o2, q1, _⟩ := I1.ok.funs.mem z
        exact absurd (Nat.lt_of_lt_of_le (Heap.lt_size q1) ge) (Nat.lt_irrefl _)⟩
  have T : ToldC X.env.cells X.N names σ cl := by
    refine ⟨fun y hy => ?_, fun y hy c o hc ho i v hN hs => ?_, I1.ok.inj⟩
    · obtain ⟨c, hc⟩ := I1.ok.has y (.inl (hcell y hy))
      obtain ⟨v, o2, q1, q2⟩ := I1.cell y c hc
      obtain ⟨o, ho⟩ := c2 y hy c hc
      have z := (c1 c o ho).1
      rw [q1] at z
      cases z
      exact ⟨c, _, v, hc, ho, q2⟩
    · obtain ⟨m, hn, loc⟩ := I1.loc
      obtain ⟨u, ru, lk⟩ := loc i y v hN hs (.inr (.inl (hcell y hy)))
      rcases lk with ⟨z, _⟩ | ⟨_, c', hc', o2, q1, q2⟩
      · rw [hcell y hy] at z; cases z
      · rw [hc] at hc'
        cases hc'
        have z := (c1 c o ho).1
        rw [q1] at z
        cases z
        exact ⟨u, q2, ru⟩
  have sq := q cl T un
  have hl : (us ++ []).length = ps.length := by rw [List.append_nil, ← r.length]; exact F.len _ _ _ _ sq
  have e1 := env_add I1.env0 C un
  have bd := hb s1 us I1.kIn hl
  rw [List.append_nil] at bd
  refine wpAny_call (codeAny_mono (F.run X.A X.stack s1 (addC H1 cl) ⟨us, []⟩ us vs _ _ hr e1 bd r sq) fun r' s' hq => ?_)
  cases r' with
  | error er => exact False.elim hq
  | ok fl =>
    cases fl with
    | ret u => exact I1.after (ce_del C un hq)
    | next => exact False.elim hq
    | brk => exact False.elim hq
    | cont => exact False.elim hq
end TG
namespace TG
open PySem PySem.Spec PyProof.Rows L2 NdefX GenW Gx Lv
/-- the reading of a lambda that captures cells of the frame -/
def tLamC (P : Addr) (q : Str) (params : Arguments) (body : Expr) (scope : Scope) (cl : List (Str × Addr)) : TE := fun _ H Q => LamX.TabS H P q ∧ ∀ (f c' : Addr) (H1 : Hp), (∀ b o, H b = some o → b ≠ P → H1 b = some o) → (∀ b, H1 b = none → H b = none) → LamX.TabS H1 P q → H f = none →
  H1 f = some (FnL f ⟨"<lambda>", q, params, [], scope, cl, c'⟩ body) → H1 c' = some (LamX.CodeO c' q) → Q (.ref f) H1
theorem pe_lamC {X : Cx} {c P : Addr} {params : Arguments} {body : Expr} {scope : Scope} {pos : Pos} (B : LamX.TabB X.base X.mg c P) (hcode : X.env.code = .ref c) (hdef : defaultsOf params X.env = ([], []))
    (hfr : ∀ y ∈ scope.names, y.2 = .free → X.env.kindOf y.1 = some .cell ∨ X.env.kindOf y.1 = some .free) :
    PE X (.Lambda params body scope pos) (tLamC P (X.env.qual ++ "<lambda>") params body scope (cloFrom X.env.cells scope.names [])) := by
  refine ⟨fun pins s σ H Q I h => ?_⟩
  obtain ⟨hT, h⟩ := h
  exact lam_val I B hcode hT hdef (fun y hy e => I.ok.has _ (hfr y hy e)) fun f c' H1 s' J k1 k2 t1 nf hf hc => ⟨.ref f, H1, J, rfl, h f c' H1 k1 k2 t1 nf hf hc⟩
end TG

namespace TG
open PySem PySem.Spec PyProof.Rows L2 NdefX GenW Gx Lv
/-! ### list.count, flat items -/
theorem cntU {y : V} : ∀ {ys : List V} {its : List Value}, Vals ys its → ys.all flatV = true → its.countP (eqU y) = ys.countP (fun z => eqV z y)
  | [], _, .nil, _ => rfl
  | z :: ys, _, .cons r t, f => by
    rw [List.all_cons, Bool.and_eq_true] at f
    rw [List.countP_cons, List.countP_cons, eqU_of r f.1, cntU t f.2]
def rCnt (K : PySem.W.Frag) : V → List V → Hp → VK → Prop := fun x xs H Q => ∃ (a : Addr) (ys : List V) (y : V), x = .ref a ∧ xs = [y] ∧ SqL K H a ys ∧ flatV y = true ∧ ys.all flatV = true ∧ Q (.int (ys.countP (fun z => eqV z y) : Nat)) H
theorem mt_cnt {X : Cx} : MtR X "list.count" (rCnt X.K) := by
  intro pins s σ H x xs v us Q I rx rxs h
  obtain ⟨a, ys, y, rfl, rfl, hs, fy, fys, q⟩ := h
  cases rx
  obtain ⟨u, rfl, ru⟩ := rxs.one
  obtain ⟨its, rv, ⟨⟨cls, dd, data, sl⟩, n, ho, hc, hdn, hd⟩, hlen⟩ := I.list hs
  simp only at hc hd
  subst hc hd
  have ec : its.toArray.toList.countP (eqU y) = ys.countP (fun z => eqV z y) := cntU rv fys
  refine call_meets PySem.F.slot_list_count ⟨_, ho, rfl⟩ PySem.F.entry_list_count (PySem.F.args_list_count_2 _ _) (SeqAt.list_countAt a its.toArray n dd sl u (eqU y)) ⟨ho, fun w hw => mem_eqAt ru fy rv fys w (by simpa using hw), ?_⟩
  refine ⟨.int (ys.countP (fun z => eqV z y) : Nat), H, I.tok _, ⟨s.toks, ?_⟩, q⟩
  rw [← ec]
/-! ### isinstance and fields of a caught error -/
/-- its dict, if it has one, is told of -/
def XdAt (H : Hp) (d : Option Addr) : Prop := d = none ∨ ∃ dd fs, d = some dd ∧ H dd = some (.xd fs)
def rIsX (K : PySem.W.Frag) (cls : Value) (d : Option Addr) (a : Addr) : List V → Hp → VK → Prop := fun xs H Q => ∃ (c : V) (cv : Value) (b : Bool) (D : Addr), xs = [.ref a, c] ∧ cls = .ref D ∧ ExcC K D ∧ (∀ u, RelV c u → u = cv) ∧ PySem.W.kitOne K (.ref D) cv = some b ∧ XdAt H d ∧ Q (.bl b) H
theorem isCls_of {K : PySem.W.Frag} {D : Addr} (h : PySem.W.hasDictIn K D = true) : (PySem.W.clsIn K D).isSome = true := by
  obtain ⟨cd, hc, _⟩ := PySem.W.any_some h
  rw [hc]
  rfl
section
variable {X : Cx} {a : Addr} {oe : Obj} {cls : Value} {d : Option Addr} {pn : List (Addr × Obj)}
theorem call_isX (hz : Zc cls d oe) (hf : ∃ vs, oe.data = .fields vs) : CallR (X.suite a ((a, oe) :: pn)) (.builtin "isinstance") (rIsX X.K cls d a) := by
  intro pins s σ H xs us Q I r h
  obtain ⟨c, cv, b, D, rfl, rfl, C, hcv, e, hd, q⟩ := h
  cases r with
  | cons rx rr =>
    cases rr with
    | cons rt rr =>
      cases rr
      cases rx
      have ec := hcv _ rt
      subst ec
      obtain ⟨hget, _⟩ := I.pin (a, oe) (List.mem_append.mpr (.inl List.mem_cons_self))
      obtain ⟨vs, hv⟩ := hf
      have nc : PySem.W.notCls oe = true := by
        unfold PySem.W.notCls
        rw [hv] <;> rfl
      have fin : ∀ tk, EP (X.suite a ((a, oe) :: pn)) pins σ Q (.bool b) { s with toks := tk } := fun tk => ⟨.bl b, H, I.kept (t' := tk) fun _ _ z => z, rfl, q⟩
      rcases hd with rfl | ⟨dd, fs, rfl, hdd⟩
      · have J : PySem.W.InstAt s.heap a oe D none := by
          obtain ⟨h1, h2⟩ := hz
          refine ⟨hget, h1, nc, ?_⟩
          rw [h2]
          trivial
        exact PySem.W.kia_one (PySem.W.kitx_exc (isCls_of C.hd) C.hg C.hk C.hs C.ha C.hn C.ht C.hm) I.kIn J e (fun z => nomatch z) fin
      · have hx : ObjOk X.prog X.w H s.heap dd (.xd fs) := I.hok dd _ hdd
        obtain ⟨mA, hns, _⟩ := hx
        obtain ⟨od, ho, _⟩ := lookIn_ns hns
        have J : PySem.W.InstAt s.heap a oe D (some od) := ⟨hget, hz.1, nc, by rw [hz.2]; exact ho⟩
        exact PySem.W.kia_one (PySem.W.kitx_exc (isCls_of C.hd) C.hg C.hk C.hs C.ha C.hn C.ht C.hm) I.kIn J e (fun z => nomatch z) fin
def tXfX (K : PySem.W.Frag) (a : Addr) (cls : Value) (d : Option Addr) (f : Str) (te : TE) : TE := fun σ H Q => ∃ C : Addr, XfC K C ∧ PySem.W.findIn K (.ref C) f = some none ∧ tXf a cls d C f te σ H Q
theorem pe_xfX {e : Expr} {te : TE} {pos : Pos} {n : Str} (hz : Zc cls d oe) (hf : ∃ vs, oe.data = .fields vs) (he : PE (X.suite a ((a, oe) :: pn)) e te) (hb : attributeBase e n X.env (eval e X.env) = eval e X.env := by rfl) :
    PE (X.suite a ((a, oe) :: pn)) (.Attribute e n pos) (tXfX X.K a cls d n te) := by
  refine ⟨fun pins s σ H Q I h => ?_⟩
  obtain ⟨C, T, hno, h⟩ := h
  exact (pe_xf T hno hz hf he hb).run pins s σ H Q I h
end
/-! ### rules for an except suite, whose readings don't speak of the error's object -/
section
variable {X : Cx} {a : Addr} {l : List (Addr × Obj)}
theorem ix_listU : IxR (X.suite a l) (rIxL X.K) := ix_list
theorem op_inU : OpR (X.suite a l) (compareOp .In) (rIn X.K false) := op_in_seq
theorem mt_cntU : MtR (X.suite a l) "list.count" (rCnt X.K) := mt_cnt
theorem mt_indexU : MtR (X.suite a l) "list.index" (rIndex X.K) := mt_index
theorem pe_bmU {T name id : String} {r : V → List V → Hp → VK → Prop} {o e : Expr} {es : List Expr} {to : TE} {t : TA} {apos cpos : Pos} (pa : PlainAttrs T) (slot : Slot T (name : Str) id) (hty : typeOf (.builtin id) = pure (.type "method_descriptor")) (hm : MtR (X.suite a l) id r)
    (ho : PE (X.suite a l) o to) (ha : PA (X.suite a l) (e :: es) t) (hbase : attributeBase o (name : Str) X.env (eval o X.env) = eval o X.env := by rfl)
    (hfew : ((backTo cpos (starEach (e :: es) X.env)).all (fun x => !x.1) && (backToKw cpos (keywordEach [] X.env)).all (fun x => x.1.isSome) && decide ((e :: es).length + ([] : List Keyword).length + (if ([] : List Keyword).isEmpty then 0 else 1) < 30)) = true := by rfl)
    (hline : (apos.endLine == cpos.line) = true := by rfl) (hs : starEach (e :: es) X.env = (false, eval e X.env) :: starEach es X.env := by rfl) (hplain : (backTo cpos (starEach es X.env)).any (·.1) = false := by rfl) :
    PE (X.suite a l) (.Call (.Attribute o (name : Str) apos) (e :: es) [] cpos) (tBM X.K T r to t) := pe_bm pa slot hty hm ho ha hbase hfew hline hs hplain
end
theorem xfC_of {K : PySem.W.Frag} {C : Addr} (h : ExcC K C) : XfC K C := ⟨h.hg, h.hk, h.hs, h.hd⟩
/-! ### a call by name of a lambda without parameters, in a try -/
def tCallX (P : Program) (w : World) (K : PySem.W.Frag) (mg : Str → Option Value) (base : Heap) (k i : Nat) (W : WX) : TE := fun σ H Q => ∃ (f : Addr) (F : NF) (e : Expr) (sp : Sp), σ[i]? = some (some (.ref f)) ∧ H f = some (FnL f F e) ∧ H F.c = some (LamX.CodeO F.c F.qual) ∧ LOkX P w K mg base k f F e sp ∧ sp [] H Q (WE W σ)
theorem pe_callX {X : Cx} {W : WX} {i k : Nat} {x : Str} {p pos : Pos} {P : Program} {w : World} {K : PySem.W.Frag} {mg : Str → Option Value} {base : Heap} (eX : X.prog = P ∧ X.w = w ∧ X.K = K ∧ X.mg = mg ∧ X.base = base) (hr : Room k X.A) (tk : Takes X W) (hN : X.N[i]? = some x) (hv : Vis X.env.scope x) (hd : (x == ("__debug__" : Str)) = false := by decide) (hcd : (x == ("__classdict__" : Str)) = false := by decide) :
    PE X (.Call (.Name x p) [] [] pos) (tCallX P w K mg base k i W) := by
  obtain ⟨rfl, rfl, rfl, rfl, rfl⟩ := eX
  refine ⟨fun pins s σ H Q I h => ?_⟩
  obtain ⟨f, F, b, sp, hs, hf, hc, L, q⟩ := h
  refine wpAny_Call_Name_kw (thn ((pe_var (pos := p) hN hv hd hcd).run pins s σ H (fun v H1 => v = .ref f ∧ H1 = H) I ⟨.ref f, hs, rfl, rfl⟩) fun u s1 ⟨v, H1, I1, r1, q1⟩ => ?_)
  obtain ⟨ev, eH⟩ := q1
  subst ev eH
  obtain rfl : u = Value.ref f := r1
  have at_ : PySem.W.FnAt f s1.heap := by
    obtain ⟨od, sl, pm, ctv, ho⟩ := fnL_at I1.hok hf
    exact ⟨_, od, _, sl, ho⟩
  refine PySem.W.callWith_F0 (first := []) at_ ?_
  refine wpAny_call (codeAny_mono (L.run X.A X.stack s1 H1 Q (WE W σ) hr I1.env0 hf hc q) fun r' s' hq => ?_)
  cases r' with
  | error er => exact passAt tk σ pins H1 s1 er s' I1 hq
  | ok fl =>
    cases fl with
    | ret u => exact I1.after hq
    | next => exact False.elim hq
    | brk => exact False.elim hq
    | cont => exact False.elim hq
end TG

namespace TG
open PySem PySem.Spec PyProof.Rows L2 NdefX GenW Gx Lv
/-! ### the eleven classes, and what _law_told tells of them -/
def excNm : List Str := ["BadPage", "BadStyle", "BadRow", "BadCell", "BadCount", "BadLines", "BadStep", "BadStroke", "BadText", "BadHand", "TooMuch"]
def excFl : List Str := ["row", "", "", "", "", "line", "number", "number", "row", "", ""]
abbrev nmE (j : Nat) : Str := excNm.getD j ""
abbrev flE (j : Nat) : Str := excFl.getD j ""
structure Errs (K : PySem.W.Frag) (mg : Str → Option Value) : Prop where
  mg_ : ∀ j, j < 11 → mg (nmE j) = some (.ref (He.ga K (nmE j)))
  grow : mg "GrowError" = some (.ref (He.ga K "GrowError"))
  exc : ∀ j, j < 11 → ExcC K (He.ga K (nmE j))
  sub : ∀ j, j < 11 → PySem.W.exmOne K (.ref (He.ga K (nmE j))) (.ref (He.ga K "GrowError")) = some true
  val : ∀ j, j < 11 → PySem.W.kitOne K (.ref (He.ga K (nmE j))) (.type "ValueError") = some true
  kit : ∀ i j, i < 11 → j < 11 → PySem.W.kitOne K (.ref (He.ga K (nmE i))) (.ref (He.ga K (nmE j))) = some (decide (i = j))
  fld : ∀ j, j < 11 → flE j ≠ "" → PySem.W.findIn K (.ref (He.ga K (nmE j))) (flE j) = some none
  ve : mg "ValueError" = none
/-- the error of the j-th class, whose value, if it has one, is n -/
structure ErrAt (K : PySem.W.Frag) (H : Hp) (j : Nat) (n : Int) (cls : Value) (d : Option Addr) : Prop where
  lt : j < 11
  cls : cls = .ref (He.ga K (nmE j))
  yes : flE j ≠ "" → ∃ dd, d = some dd ∧ H dd = some (.xd [(flE j, .int n)])
  no : flE j = "" → n = 0 ∧ d = none
theorem ErrAt.xd {K : PySem.W.Frag} {H : Hp} {j : Nat} {n : Int} {cls : Value} {d : Option Addr} (e : ErrAt K H j n cls d) : XdAt H d := by
  by_cases h : flE j = ""
  · exact .inl (e.no h).2
  · obtain ⟨dd, h1, h2⟩ := e.yes h
    exact .inr ⟨dd, _, h1, h2⟩
theorem Ex.xd {cs : List (Addr × Addr)} {H H' : Hp} {a : Addr} {fs : List (Str × V)} (e : Ex cs H H') (h : H a = some (.xd fs)) : H' a = some (.xd fs) := e.ext _ _ h fun ps q => by cases q
theorem ErrAt.ex {cs : List (Addr × Addr)} {K : PySem.W.Frag} {H H' : Hp} {j : Nat} {n : Int} {cls : Value} {d : Option Addr} (e : ErrAt K H j n cls d) (x : Ex cs H H') : ErrAt K H' j n cls d :=
  ⟨e.lt, e.cls, fun h => let ⟨dd, h1, h2⟩ := e.yes h; ⟨dd, h1, Ex.xd x h2⟩, e.no⟩
def kindsR (j m : Nat) : List V := (List.range m).map fun i => V.bl (decide (j = i))
theorem word_in : ∀ j, j < 11 → inV (.str (nmE j)) [.str "BadPage", .str "BadText"] = decide (j = 0 ∨ j = 8) := by decide +kernel
theorem word_in2 : ∀ j, j < 11 → inV (.str (nmE j)) [.str "BadStep", .str "BadStroke"] = decide (j = 6 ∨ j = 7) := by decide +kernel
theorem word_eq : ∀ j, j < 11 → decide (nmE j = "BadLines") = decide (j = 5) := by decide +kernel
theorem word_fl : ∀ j, j < 11 → ¬ (j = 0 ∨ j = 8) → ¬ j = 5 → ¬ (j = 6 ∨ j = 7) → flE j = "" := by decide +kernel
theorem kinds_cnt : ∀ j, j < 11 → (kindsR j 11).countP (fun z => eqV z (.bl true)) = 1 := by decide +kernel
theorem kinds_flat : ∀ j, j < 11 → (kindsR j 11).all flatV = true := by decide +kernel
theorem kinds_at : ∀ j, j < 11 → (kindsR j 11)[j]? = some (.bl true) := by decide +kernel
theorem kinds_no : ∀ j, j < 11 → ∀ m, m < j → (kindsR j 11)[m]? = some (.bl false) := by decide +kernel
section
variable {P : Program} {w : World} {K : PySem.W.Frag} {mg : Str → Option Value} {base : Heap} {cs : List (Addr × Addr)}
def spTells (P : Program) (w : World) (K : PySem.W.Frag) (mg : Str → Option Value) (base : Heap) (cs : List (Addr × Addr)) (kl : Nat) : Sp := fun vs H Q _ => ∃ (f : Addr) (F : NF) (e : Expr) (sp : Sp),
  vs = [.ref f] ∧ H f = some (FnL f F e) ∧ H F.c = some (LamX.CodeO F.c F.qual) ∧ LOkX P w K mg base kl f F e sp ∧
  ∀ E : XK, (∀ (cls : Value) (d : Option Addr) (H1 : Hp) (j : Nat) (n : Int), ErrAt K H1 j n cls d → Tabs cs H1 → (∀ (T : Addr) (H2 : Hp), Ex cs H1 H2 → H1 T = none → H2 T = some (.tup [.str (nmE j), .int n]) → Q (.ref T) H2) → E cls d H1) → sp [] H Q E
abbrev nmTold : List Str := ["_law_work", "e", "_law_kinds", "_law_words", "_law_word"]
theorem sc_tells : FnScope nmTold ["_law_work"] (defScope s_told) := ⟨rfl, rfl, rfl, by decide +kernel, rfl, by decide +kernel, by decide +kernel⟩
theorem names_get (j : Nat) : ∀ {H : Hp} {Q : VK} {a : Addr}, j < 11 → H a = some (.lst (excNm.map V.str)) → Q (.str (nmE j)) H → ∃ (p : Addr) (items : List V) (i : Int) (v : V), V.ref a = .ref p ∧ V.int (j : Nat) = .int i ∧ SqL K H p items ∧ atI items i = some v ∧ Q v H := fun {H Q a} hj ha q =>
  ⟨a, _, _, _, rfl, rfl, SqL.of ha, atI_nat (v := .str (nmE j)) (by
    rw [List.getElem?_map]
    have : excNm[j]? = some (nmE j) := by
      have h2 : j < excNm.length := hj
      rw [List.getElem?_eq_getElem h2]
      simp [nmE, List.getD, List.getElem?_eq_getElem h2]
    rw [this]
    rfl), q⟩
theorem ok_tells {f : Addr} {fd : FuncData} {kl : Nat} (T : Txt mg) (Er : Errs K mg) (F : Fun K "_law_told" "_law_told" s_told f fd) : FnOk P w K mg base CX0 (kl + 1) f fd ["_law_work"] (spTells P w K mg base cs kl) := by
  refine F.ok sc_tells (fun vs H Q E h => ?_) (fun cdv A outer s H vs Q E hr h => ?_)
  · obtain ⟨f, F, e, sp, rfl, _⟩ := h
    rfl
  · obtain ⟨fl, Fl, el, sp, rfl, hf, hc, L, k⟩ := h
    have nd := sc_tells.nd
    refine ⟨_, pss_one (ps_try_as (i := 1) rfl rfl nd rfl rfl ⟨rfl, by decide, .inl Er.grow⟩ takes0 (fun W pn xe tk _ => pss_one (ps_ret (pe_callX (P := P) (w := w) (K := K) (mg := mg) (base := base) (k := kl) (i := 0) ⟨rfl, rfl, rfl, rfl, rfl⟩ hr tk rfl (.inl rfl))))
      (fun a oe cls d pn hz hf => 
        pss_cons (ps_set (i := 2) nd rfl (.inl rfl) (pe_lst (pa_cons (pe_callB (call_isX hz hf) (by rfl) T.isin (by decide +kernel) (pa_cons (pv 1) (pa_cons (pe_glob (v := .ref (He.ga K (nmE 0))) rfl (Er.mg_ 0 (by decide)) rfl) pa_nil)))
            (pa_cons (pe_callB (call_isX hz hf) (by rfl) T.isin (by decide +kernel) (pa_cons (pv 1) (pa_cons (pe_glob (v := .ref (He.ga K (nmE 1))) rfl (Er.mg_ 1 (by decide)) rfl) pa_nil)))
            (pa_cons (pe_callB (call_isX hz hf) (by rfl) T.isin (by decide +kernel) (pa_cons (pv 1) (pa_cons (pe_glob (v := .ref (He.ga K (nmE 2))) rfl (Er.mg_ 2 (by decide)) rfl) pa_nil)))
            (pa_cons (pe_callB (call_isX hz hf) (by rfl) T.isin (by decide +kernel) (pa_cons (pv 1) (pa_cons (pe_glob (v := .ref (He.ga K (nmE 3))) rfl (Er.mg_ 3 (by decide)) rfl) pa_nil))) pa_nil))))))
        (pss_cons (ps_set (i := 2) nd rfl (.inl rfl) (pe_op op_cat (pv 2) (pe_lst (pa_cons (pe_callB (call_isX hz hf) (by rfl) T.isin (by decide +kernel) (pa_cons (pv 1) (pa_cons (pe_glob (v := .ref (He.ga K (nmE 4))) rfl (Er.mg_ 4 (by decide)) rfl) pa_nil)))
            (pa_cons (pe_callB (call_isX hz hf) (by rfl) T.isin (by decide +kernel) (pa_cons (pv 1) (pa_cons (pe_glob (v := .ref (He.ga K (nmE 5))) rfl (Er.mg_ 5 (by decide)) rfl) pa_nil)))
            (pa_cons (pe_callB (call_isX hz hf) (by rfl) T.isin (by decide +kernel) (pa_cons (pv 1) (pa_cons (pe_glob (v := .ref (He.ga K (nmE 6))) rfl (Er.mg_ 6 (by decide)) rfl) pa_nil))) pa_nil))))))
        (pss_cons (ps_set (i := 2) nd rfl (.inl rfl) (pe_op op_cat (pv 2) (pe_lst (pa_cons (pe_callB (call_isX hz hf) (by rfl) T.isin (by decide +kernel) (pa_cons (pv 1) (pa_cons (pe_glob (v := .ref (He.ga K (nmE 7))) rfl (Er.mg_ 7 (by decide)) rfl) pa_nil)))
            (pa_cons (pe_callB (call_isX hz hf) (by rfl) T.isin (by decide +kernel) (pa_cons (pv 1) (pa_cons (pe_glob (v := .ref (He.ga K (nmE 8))) rfl (Er.mg_ 8 (by decide)) rfl) pa_nil)))
            (pa_cons (pe_callB (call_isX hz hf) (by rfl) T.isin (by decide +kernel) (pa_cons (pv 1) (pa_cons (pe_glob (v := .ref (He.ga K (nmE 9))) rfl (Er.mg_ 9 (by decide)) rfl) pa_nil))) pa_nil))))))
        (pss_cons (ps_expr (pe_bmU PySem.F.plainAttrs_list PySem.F.slot_list_append PySem.F.type_list_append mt_append (pv 2) (pa_cons (pe_callB (call_isX hz hf) (by rfl) T.isin (by decide +kernel) (pa_cons (pv 1) (pa_cons (pe_glob (v := .ref (He.ga K (nmE 10))) rfl (Er.mg_ 10 (by decide)) rfl) pa_nil))) pa_nil)))
        (pss_cons (ps_if (PW.pt (pw_or (pt_cmpR op_ne (pe_bmU PySem.F.plainAttrs_list PySem.F.slot_list_count PySem.F.type_list_count mt_cntU (pv 2) (pa_cons pe_bl pa_nil)) pe_int (nomark _))
            (pw_or1 (pt_not (pt_val (pe_callB (call_isX hz hf) (by rfl) T.isin (by decide +kernel) (pa_cons (pv 1) (pa_cons (pe_bltn (v := .ty "ValueError") (by rfl) Er.ve (by decide +kernel) rfl) pa_nil)))))))) (pss_one (ps_ret (pe_tup (pa_cons pe_str (pa_cons pe_int pa_nil))))) pss_nil)
        (pss_cons (ps_set (i := 3) nd rfl (.inl rfl) (pe_lst (pa_cons pe_str (pa_cons pe_str (pa_cons pe_str (pa_cons pe_str (pa_cons pe_str (pa_cons pe_str (pa_cons pe_str (pa_cons pe_str (pa_cons pe_str pa_nil)))))))))))
        (pss_cons (ps_set (i := 4) nd rfl (.inl rfl) (pe_ix ix_listU (pe_op op_cat (pv 3) (pe_lst (pa_cons pe_str (pa_cons pe_str pa_nil)))) (pe_bmU PySem.F.plainAttrs_list PySem.F.slot_list_index PySem.F.type_list_index mt_indexU (pv 2) (pa_cons pe_bl pa_nil)) (fun _ _ => rfl)))
        (pss_cons (ps_if (pt_cmpR op_inU (pv 4) (pe_tup (pa_cons pe_str (pa_cons pe_str pa_nil))) (by with_unfolding_all rfl)) (pss_one (ps_ret (pe_tup (pa_cons (pv 4) (pa_cons (pe_xfX hz hf (pv 1)) pa_nil))))) pss_nil)
        (pss_cons (ps_if (pt_cmpR op_eq (pv 4) pe_str (nomark _)) (pss_one (ps_ret (pe_tup (pa_cons (pv 4) (pa_cons (pe_xfX hz hf (pv 1)) pa_nil))))) pss_nil)
        (pss_one (ps_ret (pe_tup (pa_cons (pv 4) (pa_cons (pe_ifExp (pt_cmpR op_inU (pv 4) (pe_tup (pa_cons pe_str (pa_cons pe_str pa_nil))) (by with_unfolding_all rfl)) (pe_xfX hz hf (pv 1)) pe_int) pa_nil))))))))))))))), ?_⟩
    refine ⟨fl, Fl, el, sp, rfl, hf, hc, L, k _ fun cls d H1 j n he hT kq => ?_⟩
    refine ⟨true, by rw [he.cls]; exact Er.sub j he.lt, fun _ a na => ?_, fun q => nomatch q⟩
    have szl : (1000 : Nat) < sizeLine := by decide
    refine ⟨_, rfl, _, .ref (He.ga K (nmE 0)), _, _, rfl, he.cls, Er.exc j he.lt, fun u r => r, Er.kit j 0 he.lt (by decide), he.xd, ⟨_, rfl, _, .ref (He.ga K (nmE 1)), _, _, rfl, he.cls, Er.exc j he.lt, fun u r => r, Er.kit j 1 he.lt (by decide), he.xd, ⟨_, rfl, _, .ref (He.ga K (nmE 2)), _, _, rfl, he.cls, Er.exc j he.lt, fun u r => r, Er.kit j 2 he.lt (by decide), he.xd, ⟨_, rfl, _, .ref (He.ga K (nmE 3)), _, _, rfl, he.cls, Er.exc j he.lt, fun u r => r, Er.kit j 3 he.lt (by decide), he.xd, (by show 4 ≤ sizeLine; decide), fun l1 n1 => ?_⟩⟩⟩⟩
    have x1 : Ex cs H1 (upd H1 l1 (.lst ([V.bl (decide (j = 0)), V.bl (decide (j = 1)), V.bl (decide (j = 2)), V.bl (decide (j = 3))]))) := Ex.laid hT n1
    have h1 : upd H1 l1 (.lst ([V.bl (decide (j = 0)), V.bl (decide (j = 1)), V.bl (decide (j = 2)), V.bl (decide (j = 3))])) l1 = some (.lst ([V.bl (decide (j = 0)), V.bl (decide (j = 1)), V.bl (decide (j = 2)), V.bl (decide (j = 3))])) := upd_same
    generalize upd H1 l1 (.lst ([V.bl (decide (j = 0)), V.bl (decide (j = 1)), V.bl (decide (j = 2)), V.bl (decide (j = 3))])) = H2 at x1 h1 ⊢
    have he1 := he.ex x1
    refine ⟨_, rfl, ⟨_, rfl, _, .ref (He.ga K (nmE 4)), _, _, rfl, he1.cls, Er.exc j he1.lt, fun u r => r, Er.kit j 4 he1.lt (by decide), he1.xd, ⟨_, rfl, _, .ref (He.ga K (nmE 5)), _, _, rfl, he1.cls, Er.exc j he1.lt, fun u r => r, Er.kit j 5 he1.lt (by decide), he1.xd, ⟨_, rfl, _, .ref (He.ga K (nmE 6)), _, _, rfl, he1.cls, Er.exc j he1.lt, fun u r => r, Er.kit j 6 he1.lt (by decide), he1.xd, (by show 3 ≤ sizeLine; decide), fun l2 n2 => ?_⟩⟩⟩⟩
    have x2 : Ex cs H2 (upd H2 l2 (.lst ([V.bl (decide (j = 4)), V.bl (decide (j = 5)), V.bl (decide (j = 6))]))) := Ex.laid x1.tab n2
    have h2 : upd H2 l2 (.lst ([V.bl (decide (j = 4)), V.bl (decide (j = 5)), V.bl (decide (j = 6))])) l2 = some (.lst ([V.bl (decide (j = 4)), V.bl (decide (j = 5)), V.bl (decide (j = 6))])) := upd_same
    generalize upd H2 l2 (.lst ([V.bl (decide (j = 4)), V.bl (decide (j = 5)), V.bl (decide (j = 6))])) = H3 at x2 h2 ⊢
    refine ⟨l1, l2, _, _, rfl, rfl, x2.lst h1, h2, by show 7 ≤ sizeLine; decide, fun l3 n3 => ?_⟩
    have x3 : Ex cs H3 (upd H3 l3 (.lst ([V.bl (decide (j = 0)), V.bl (decide (j = 1)), V.bl (decide (j = 2)), V.bl (decide (j = 3))] ++ [V.bl (decide (j = 4)), V.bl (decide (j = 5)), V.bl (decide (j = 6))]))) := Ex.laid x2.tab n3
    have h3 : upd H3 l3 (.lst ([V.bl (decide (j = 0)), V.bl (decide (j = 1)), V.bl (decide (j = 2)), V.bl (decide (j = 3))] ++ [V.bl (decide (j = 4)), V.bl (decide (j = 5)), V.bl (decide (j = 6))])) l3 = some (.lst ([V.bl (decide (j = 0)), V.bl (decide (j = 1)), V.bl (decide (j = 2)), V.bl (decide (j = 3))] ++ [V.bl (decide (j = 4)), V.bl (decide (j = 5)), V.bl (decide (j = 6))])) := upd_same
    generalize upd H3 l3 (.lst ([V.bl (decide (j = 0)), V.bl (decide (j = 1)), V.bl (decide (j = 2)), V.bl (decide (j = 3))] ++ [V.bl (decide (j = 4)), V.bl (decide (j = 5)), V.bl (decide (j = 6))])) = H4 at x3 h3 ⊢
    have he3 := (he1.ex x2).ex x3
    refine ⟨_, rfl, ⟨_, rfl, _, .ref (He.ga K (nmE 7)), _, _, rfl, he3.cls, Er.exc j he3.lt, fun u r => r, Er.kit j 7 he3.lt (by decide), he3.xd, ⟨_, rfl, _, .ref (He.ga K (nmE 8)), _, _, rfl, he3.cls, Er.exc j he3.lt, fun u r => r, Er.kit j 8 he3.lt (by decide), he3.xd, ⟨_, rfl, _, .ref (He.ga K (nmE 9)), _, _, rfl, he3.cls, Er.exc j he3.lt, fun u r => r, Er.kit j 9 he3.lt (by decide), he3.xd, (by show 3 ≤ sizeLine; decide), fun l4 n4 => ?_⟩⟩⟩⟩
    have x4 : Ex cs H4 (upd H4 l4 (.lst ([V.bl (decide (j = 7)), V.bl (decide (j = 8)), V.bl (decide (j = 9))]))) := Ex.laid x3.tab n4
    have h4 : upd H4 l4 (.lst ([V.bl (decide (j = 7)), V.bl (decide (j = 8)), V.bl (decide (j = 9))])) l4 = some (.lst ([V.bl (decide (j = 7)), V.bl (decide (j = 8)), V.bl (decide (j = 9))])) := upd_same
    generalize upd H4 l4 (.lst ([V.bl (decide (j = 7)), V.bl (decide (j = 8)), V.bl (decide (j = 9))])) = H5 at x4 h4 ⊢
    refine ⟨l3, l4, _, _, rfl, rfl, x4.lst h3, h4, by show 10 ≤ sizeLine; decide, fun l5 n5 => ?_⟩
    have x5 : Ex cs H5 (upd H5 l5 (.lst (([V.bl (decide (j = 0)), V.bl (decide (j = 1)), V.bl (decide (j = 2)), V.bl (decide (j = 3))] ++ [V.bl (decide (j = 4)), V.bl (decide (j = 5)), V.bl (decide (j = 6))]) ++ [V.bl (decide (j = 7)), V.bl (decide (j = 8)), V.bl (decide (j = 9))]))) := Ex.laid x4.tab n5
    have h5 : upd H5 l5 (.lst (([V.bl (decide (j = 0)), V.bl (decide (j = 1)), V.bl (decide (j = 2)), V.bl (decide (j = 3))] ++ [V.bl (decide (j = 4)), V.bl (decide (j = 5)), V.bl (decide (j = 6))]) ++ [V.bl (decide (j = 7)), V.bl (decide (j = 8)), V.bl (decide (j = 9))])) l5 = some (.lst (([V.bl (decide (j = 0)), V.bl (decide (j = 1)), V.bl (decide (j = 2)), V.bl (decide (j = 3))] ++ [V.bl (decide (j = 4)), V.bl (decide (j = 5)), V.bl (decide (j = 6))]) ++ [V.bl (decide (j = 7)), V.bl (decide (j = 8)), V.bl (decide (j = 9))])) := upd_same
    generalize upd H5 l5 (.lst (([V.bl (decide (j = 0)), V.bl (decide (j = 1)), V.bl (decide (j = 2)), V.bl (decide (j = 3))] ++ [V.bl (decide (j = 4)), V.bl (decide (j = 5)), V.bl (decide (j = 6))]) ++ [V.bl (decide (j = 7)), V.bl (decide (j = 8)), V.bl (decide (j = 9))])) = H6 at x5 h5 ⊢
    have y5 := (((x1.trans x2).trans x3).trans x4).trans x5
    have he5 := he.ex y5
    have n50 : H1 l5 = none := (((x1.trans x2).trans x3).trans x4).old _ n5
    refine ⟨_, rfl, .inl ⟨rfl, _, SqL.of h5⟩, ⟨_, rfl, _, .ref (He.ga K (nmE 10)), _, _, rfl, he5.cls, Er.exc j he5.lt, fun u r => r, Er.kit j 10 he5.lt (by decide), he5.xd, l5, _, _, rfl, rfl, h5, by show 10 < sizeLine; decide, ?_⟩⟩
    have x6 : Ex cs H1 (upd H6 l5 (.lst (kindsR j 11))) := ex_new hT y5 n50
    have h6 : upd H6 l5 (.lst (kindsR j 11)) l5 = some (.lst (kindsR j 11)) := upd_same
    show tSeq _ _ _ _ (upd H6 l5 (.lst (kindsR j 11)))
    generalize upd H6 l5 (.lst (kindsR j 11)) = H7 at x6 h6 ⊢
    have he6 := he.ex x6
    have hj := he.lt
    -- one of them, and a ValueError
    refine ⟨_, rfl, .inl ⟨rfl, _, SqL.of h6⟩, l5, _, .bl true, rfl, rfl, SqL.of h6, rfl, kinds_flat j hj, rfl, false, ?_, iteF ?_⟩
    · rw [kinds_cnt j hj]
      rfl
    refine ⟨_, rfl, _, .type "ValueError", true, _, rfl, he.cls, Er.exc j hj, fun u r => r, Er.val j hj, he6.xd, true, rfl, iteF ?_⟩
    -- its name
    refine ⟨by show 9 ≤ sizeLine; decide, fun l7 n7 => ?_⟩
    have x7 := x6.trans (Ex.laid (o := .lst [V.str "BadPage", V.str "BadStyle", V.str "BadRow", V.str "BadCell", V.str "BadCount", V.str "BadLines", V.str "BadStep", V.str "BadStroke", V.str "BadText"]) x6.tab n7)
    have h7 : upd H7 l7 (.lst [V.str "BadPage", V.str "BadStyle", V.str "BadRow", V.str "BadCell", V.str "BadCount", V.str "BadLines", V.str "BadStep", V.str "BadStroke", V.str "BadText"]) l7 = some (.lst [V.str "BadPage", V.str "BadStyle", V.str "BadRow", V.str "BadCell", V.str "BadCount", V.str "BadLines", V.str "BadStep", V.str "BadStroke", V.str "BadText"]) := upd_same
    have h67 : upd H7 l7 (.lst [V.str "BadPage", V.str "BadStyle", V.str "BadRow", V.str "BadCell", V.str "BadCount", V.str "BadLines", V.str "BadStep", V.str "BadStroke", V.str "BadText"]) l5 = some (.lst (kindsR j 11)) := by rw [upd_ne (ne_of_none h6 n7)]; exact h6
    generalize upd H7 l7 (.lst [V.str "BadPage", V.str "BadStyle", V.str "BadRow", V.str "BadCell", V.str "BadCount", V.str "BadLines", V.str "BadStep", V.str "BadStroke", V.str "BadText"]) = H8 at x7 h7 h67 ⊢
    refine ⟨_, rfl, by show 2 ≤ sizeLine; decide, fun l8 n8 => ?_⟩
    have x8 := x7.trans (Ex.laid (o := .lst [V.str "BadHand", V.str "TooMuch"]) x7.tab n8)
    refine ⟨l7, l8, _, _, rfl, rfl, by rw [upd_ne (ne_of_none h7 n8)]; exact h7, upd_same, by show 11 ≤ sizeLine; decide, fun l9 n9 => ?_⟩
    have x9 := x8.trans (Ex.laid (o := .lst ([V.str "BadPage", V.str "BadStyle", V.str "BadRow", V.str "BadCell", V.str "BadCount", V.str "BadLines", V.str "BadStep", V.str "BadStroke", V.str "BadText"] ++ [V.str "BadHand", V.str "TooMuch"])) x8.tab n9)
    have h9 : upd (upd H8 l8 (.lst [V.str "BadHand", V.str "TooMuch"])) l9 (.lst ([V.str "BadPage", V.str "BadStyle", V.str "BadRow", V.str "BadCell", V.str "BadCount", V.str "BadLines", V.str "BadStep", V.str "BadStroke", V.str "BadText"] ++ [V.str "BadHand", V.str "TooMuch"])) l9 = some (.lst ([V.str "BadPage", V.str "BadStyle", V.str "BadRow", V.str "BadCell", V.str "BadCount", V.str "BadLines", V.str "BadStep", V.str "BadStroke", V.str "BadText"] ++ [V.str "BadHand", V.str "TooMuch"])) := upd_same
    have h69 : upd (upd H8 l8 (.lst [V.str "BadHand", V.str "TooMuch"])) l9 (.lst ([V.str "BadPage", V.str "BadStyle", V.str "BadRow", V.str "BadCell", V.str "BadCount", V.str "BadLines", V.str "BadStep", V.str "BadStroke", V.str "BadText"] ++ [V.str "BadHand", V.str "TooMuch"])) l5 = some (.lst (kindsR j 11)) := by
      have e := upd_ne (H := H8) (o := HO.lst [V.str "BadHand", V.str "TooMuch"]) (ne_of_none h67 n8)
      rw [upd_ne (ne_of_none (e.trans h67) n9), e]
      exact h67
    refine ⟨_, rfl, .inl ⟨rfl, _, SqL.of h69⟩, l5, _, .bl true, j, .bl true, rfl, rfl, SqL.of h69, rfl, kinds_flat j hj, kinds_at j hj, rfl, fun m z hm hz => ?_, ?_⟩
    · rw [kinds_no j hj m hm] at hz
      cases hz
      rfl
    refine names_get j hj (h9.trans rfl) ?_
    generalize upd (upd H8 l8 (.lst [V.str "BadHand", V.str "TooMuch"])) l9 (.lst ([V.str "BadPage", V.str "BadStyle", V.str "BadRow", V.str "BadCell", V.str "BadCount", V.str "BadLines", V.str "BadStep", V.str "BadStroke", V.str "BadText"] ++ [V.str "BadHand", V.str "TooMuch"])) = H9 at x9
    clear h9 h69 h7 h67 n8 n9 n7 x8 x7 h6 he6 h5 n5 x5 he5 n50 y5
    have fin : ∀ {H' : Hp}, Ex cs H1 H' → ∀ T, H' T = none → Q (.ref T) (upd H' T (.tup [.str (nmE j), .int n])) := fun {H'} x T nT => kq T _ (x.trans (Ex.laid x.tab nT)) (x.old _ nT) upd_same
    have fld : ∀ {H' : Hp} {f : Str} {Z : VK}, Ex cs H1 H' → flE j = f → f ≠ "" → Z (.int n) H' → ∃ C : Addr, XfC K C ∧ PySem.W.findIn K (.ref C) f = some none ∧ ∃ v, ([some (V.ref fl), some (V.ref a), some (V.ref l5), some (V.ref l7), some (V.str (nmE j))] : L2.St)[1]? = some (some v) ∧ v = .ref a ∧ cls = .ref C ∧ ∃ (dd : Addr) (fs : List (Str × V)) (v : V), d = some dd ∧ H' dd = some (.xd fs) ∧ fs.lookup f = some v ∧ Z v H' := fun {H' f Z} x e ne q => by
      subst e
      obtain ⟨dd, e1, e2⟩ := (he.ex x).yes ne
      exact ⟨_, xfC_of (Er.exc j hj), Er.fld j hj ne, _, rfl, rfl, he.cls, dd, _, .int n, e1, e2, by simp [List.lookup], q⟩
    refine ⟨_, rfl, by show 2 ≤ sizeLine; decide, fun t1 nt1 => ⟨t1, _, rfl, .inr (SqT.of upd_same), rfl, rfl, _, rfl, ?_⟩⟩
    have xa := x9.trans (Ex.laid (o := .tup [.str "BadPage", .str "BadText"]) x9.tab nt1)
    show if inV (.str (nmE j)) [.str "BadPage", .str "BadText"] = true then _ else _
    rw [word_in j hj]
    by_cases c1 : j = 0 ∨ j = 8
    · rw [decide_eq_true c1]
      refine iteT ⟨_, rfl, ?_⟩
      refine fld xa (by rcases c1 with rfl | rfl <;> rfl) (by decide) ⟨by show 2 ≤ sizeLine; decide, fun T nT => fin xa T nT⟩
    · rw [decide_eq_false c1]
      refine iteF ⟨_, rfl, rfl, _, rfl, ?_⟩
      have e5 : decide (V.str (nmE j) = V.str "BadLines") = decide (j = 5) := by
        rw [← word_eq j hj]
        by_cases q : nmE j = "BadLines"
        · rw [decide_eq_true q, decide_eq_true (by rw [q])]
        · rw [decide_eq_false q, decide_eq_false (fun z => q (by injection z))]
      rw [e5]
      by_cases c2 : j = 5
      · rw [decide_eq_true c2]
        refine iteT ⟨_, rfl, ?_⟩
        refine fld xa (by rw [c2]; rfl) (by decide) ⟨by show 2 ≤ sizeLine; decide, fun T nT => fin xa T nT⟩
      · rw [decide_eq_false c2]
        refine iteF ⟨_, rfl, _, rfl, by show 2 ≤ sizeLine; decide, fun t2 nt2 => ⟨t2, _, rfl, .inr (SqT.of upd_same), rfl, rfl, _, rfl, ?_⟩⟩
        have xb := xa.trans (Ex.laid (o := .tup [.str "BadStep", .str "BadStroke"]) xa.tab nt2)
        show if inV (.str (nmE j)) [.str "BadStep", .str "BadStroke"] = true then _ else _
        rw [word_in2 j hj]
        by_cases c3 : j = 6 ∨ j = 7
        · rw [decide_eq_true c3]
          refine iteT ?_
          refine fld xb (by rcases c3 with rfl | rfl <;> rfl) (by decide) ⟨by show 2 ≤ sizeLine; decide, fun T nT => fin xb T nT⟩
        · rw [decide_eq_false c3]
          have e0 := (he.no (word_fl j hj c1 c2 c3)).1
          subst e0
          exact iteF ⟨by show 2 ≤ sizeLine; decide, fun T nT => fin xb T nT⟩
end
end TG

namespace TG
open PySem PySem.Spec PyProof.Rows L2 NdefX GenW Gx Lv
/-! ### _law_all of one lambda that is refused -/
theorem fnL_keep {cs : List (Addr × Addr)} {H H' : Hp} {f : Addr} {F : NF} {e : Expr} (x : Ex cs H H') (h : H f = some (FnL f F e)) : H' f = some (FnL f F e) := x.ext _ _ h fun ps => fnL_ne ps
theorem code_keep {cs : List (Addr × Addr)} {H H' : Hp} {c : Addr} {q : Str} (x : Ex cs H H') (h : H c = some (LamX.CodeO c q)) : H' c = some (LamX.CodeO c q) := x.ext _ _ h fun ps => LamX.codeO_ne ps
section
variable {P : Program} {w : World} {K : PySem.W.Frag} {mg : Str → Option Value} {base : Heap} {cs : List (Addr × Addr)}
def spAll (P : Program) (w : World) (K : PySem.W.Frag) (mg : Str → Option Value) (base : Heap) (cs : List (Addr × Addr)) (kl : Nat) : Sp := fun vs H Q _ => ∃ (a dd f : Addr) (F : NF) (e : Expr) (sp : Sp) (j : Nat) (n : Int),
  vs = [.ref a, .ref dd] ∧ Tabs cs H ∧ H a = some (.lst [.ref f]) ∧ H f = some (FnL f F e) ∧ H F.c = some (LamX.CodeO F.c F.qual) ∧ LOkX P w K mg base kl f F e sp ∧
  ∀ (D : Addr) (Z : VK) (E : XK), H D = none → (∀ (cls : Value) (d : Option Addr) (H1 : Hp), ErrAt K H1 j n cls d → Tabs cs H1 → H1 D = some (.lst []) → H1 a = some (.lst [.ref f]) → H1 dd = some (.tup [.str (nmE j), .int n]) → (∀ H2, Ex cs H1 H2 → Q (.bl true) H2) → E cls d H1) →
    sp [] (upd H D (.lst [])) Z E
abbrev nmAll : List Str := ["_law_works", "_law_due", "_law_work"]
theorem sc_all : FnScope nmAll ["_law_works", "_law_due"] (defScope s_all) := ⟨rfl, rfl, rfl, by decide +kernel, rfl, by decide +kernel, by decide +kernel⟩
theorem ok_all {f g1 g2 : Addr} {fd fd1 fd2 : FuncData} {kl : Nat} (hkl : 5 ≤ kl + 1) (F : Fun K "_law_all" "_law_all" s_all f fd)
    (G1 : FnOk P w K mg base CX0 5 g1 fd1 ["_law_found", "_law_due"] (spAlike K 4)) (k1 : PySem.W.keepIn K (.ref g1) = true) (b1 : Binds K fd1 ["_law_found", "_law_due"] []) (m1 : mg "_law_alike" = some (.ref g1))
    (G2 : FnOk P w K mg base CX0 (kl + 1) g2 fd2 ["_law_work"] (spTells P w K mg base cs kl)) (k2 : PySem.W.keepIn K (.ref g2) = true) (b2 : Binds K fd2 ["_law_work"] []) (m2 : mg "_law_told" = some (.ref g2)) :
    FnOk P w K mg base CX0 (kl + 2) f fd ["_law_works", "_law_due"] (spAll P w K mg base cs kl) := by
  refine F.ok sc_all (fun vs H Q E h => ?_) (fun cdv A outer s H vs Q E hr h => ?_)
  · obtain ⟨a, dd, f, F, e, sp, j, n, rfl, _⟩ := h
    rfl
  · obtain ⟨a, dd, fl, Fl, el, sp, j, n, rfl, hT, ha, hf, hc, L, k⟩ := h
    have nd := sc_all.nd
    have hu := hr.units
    have r5 : Room 5 _ := hr.mono hkl
    refine ⟨_, pss_one (ps_ret (pe_cmpR (op_eqD hu) (pe_lc (own := [("_law_work", 2)]) (g := gName 2) rfl nd (pi_list (pv 0)) (blkOk_by (own := [("_law_work", 2)]) (N := nmAll) (sc := defScope s_all) (by decide +kernel))
        (fun _ _ _ _ _ => pg_name (i := 2) nd rfl (Or.inl rfl)) (fun _ _ _ _ _ => pts_one (pt_not (pt_val (pe_call G1 r5 (by rfl) m1 k1 b1 .nil pass0 (pa_cons (pe_call G2 hr (by rfl) m2 k2 b2 .nil pass0 (pa_cons (pv 2) pa_nil)) (pa_cons (pv 1) pa_nil)))))) (fun _ _ _ _ _ => pv 2)) (pe_lst pa_nil) (nomark _))), ?_⟩
    refine ⟨_, rfl, a, rfl, ⟨_, SqL.of ha⟩, fun D nD => ?_⟩
    refine lc_list (xs := [.ref fl]) (fun i H' => (i = 0 ∧ H' = upd H D (.lst [])) ∨ (i = 1 ∧ H' D = some (.lst []) ∧ H' a = some (.lst [.ref fl]) ∧ Tabs cs H' ∧ ∀ H2, Ex cs H' H2 → Q (.bl true) H2)) (.inl ⟨rfl, rfl⟩) ?_ ?_ ?_
    · rintro i H' hi (⟨rfl, rfl⟩ | ⟨rfl, _, h1, _⟩)
      · exact SqL.of (by rw [upd_ne (ne_of_none ha nD)]; exact ha)
      · exact SqL.of h1
    · rintro i x H' hx (⟨rfl, rfl⟩ | ⟨rfl, _⟩)
      · cases hx
        have x0 := Ex.laid (o := .lst []) hT nD
        refine ⟨rfl, _, rfl, fl, Fl, el, sp, rfl, fnL_keep x0 hf, code_keep x0 hc, L, fun E hE => ?_⟩
        refine k D _ E nD fun cls d H1 he hT1 hD ha1 hdd q => hE cls d H1 j n he hT1 fun T H2 x2 nT hTt => ?_
        have e1 : (H2 T) = some (.tup [.str (nmE j), .int n]) := hTt
        have e2 : H2 dd = some (.tup [.str (nmE j), .int n]) := x2.tup hdd
        refine ⟨_, rfl, _, _, .tuple [.str (nmE j), .int n], rfl, .tup (SqT.of e1) (.cons (.str _) (.cons (.int _) .nil)), .tup (SqT.of e2) (.cons (.str _) (.cons (.int _) .nil)), by simp [PyData.depth, PyData.depthAll], by simp [dok, dokAll], true, rfl, iteF (.inr ⟨rfl, x2.lst hD, x2.lst ha1, x2.tab, fun H3 x3 => q H3 (x2.trans x3)⟩)⟩
      · cases hx
    · rintro H' (⟨e, _⟩ | ⟨_, hD, _, hT1, q⟩)
      · cases e
      · refine ⟨small0, fun p np => ?_⟩
        have xp := Ex.laid (o := .lst []) hT1 np
        exact ⟨.list [], .list [], .lst (SqL.of (xp.lst hD)) .nil, .lst (SqL.of upd_same) .nil, rfl, rfl, q _ xp⟩
end
end TG

namespace TG
open PySem PySem.Spec PyProof.Rows L2 NdefX GenW Gx Lv
/-! ### cells told of, and what a lambda caught -/
theorem caught_of {cells : List (Str × Addr)} {N names fr : List Str} {σ : L2.St} {cl : List (Addr × Obj)} {F : NF} {ws : List (Option V)} {H : Hp} (T : ToldC cells N names σ cl) (hF : F.cl = cloFrom cells F.scope.names [])
    (hfr : ∀ y, (y, NameKind.free) ∈ F.scope.names → y ∈ fr) (hrf : ∀ y ∈ fr, (y, NameKind.free) ∈ F.scope.names) (hsub : ∀ y ∈ fr, y ∈ names) (len : ws.length = fr.length) (told : ∀ c o, cl.lookup c = some o → H c = some (cellF o))
    (hw : ∀ (i : Nat) (y : Str) (v : V), fr[i]? = some y → ws[i]? = some (some v) → ∃ j : Nat, N[j]? = some y ∧ σ[j]? = some (some v)) : Caught F fr ws cl H := by
  have at_ : ∀ y c, F.cl.lookup y = some c → y ∈ fr ∧ ∃ o v, cells.lookup y = some c ∧ cl.lookup c = some o ∧ o.data = .cell v := fun y c e => by
    rw [hF] at e
    rcases cloFrom_mem (PySem.mem_of_lookup e) with z | ⟨z, hc⟩
    · cases z
    · have hy := hfr y z
      obtain ⟨c', o, v, e1, e2, e3⟩ := T.all y (hsub y hy)
      rw [e1] at hc
      have hc : c = c' := hc
      subst hc
      exact ⟨hy, o, v, e1, e2, e3⟩
  refine ⟨len, told, fun y c e => ?_, fun x y c e1 e2 => ?_, fun i y e => ?_⟩
  · obtain ⟨_, o, v, _, h2, h3⟩ := at_ y c e
    exact ⟨o, v, h2, h3⟩
  · obtain ⟨_, _, _, h1, _⟩ := at_ x c e1
    obtain ⟨_, _, _, h2, _⟩ := at_ y c e2
    exact T.inj x y c h1 h2
  · have hy : y ∈ fr := List.mem_of_getElem? e
    have hm := cloFrom_has (cells := cells) (acc := []) (hrf y hy)
    have hs : ∃ c, F.cl.lookup y = some c := by
      rw [hF]
      cases q : (cloFrom cells F.scope.names []).lookup y with
      | some c => exact ⟨c, rfl⟩
      | none =>
        have := List.lookup_eq_none_iff.mp q _ hm
        simp at this
    obtain ⟨c, hc⟩ := hs
    obtain ⟨_, o, v0, h1, h2, h3⟩ := at_ y c hc
    refine ⟨c, hc, fun v hv => ?_⟩
    obtain ⟨j, hj1, hj2⟩ := hw i y v e hv
    obtain ⟨u, e1, e2⟩ := T.val y (hsub y hy) c o h1 h2 j v hj1 hj2
    exact ⟨o, u, h2, e1, e2⟩
section
variable {cs : List (Addr × Addr)} {H H' : Hp} {cl : List (Addr × Obj)}
theorem add_at (un : ∀ c o, cl.lookup c = some o → H c = none) {b : Addr} {o : HO} (h : H b = some o) : addC H cl b = some o := by
  cases r : cl.lookup b with
  | some u => rw [un b u r] at h; cases h
  | none => rw [addC_out r]; exact h
theorem del_at (un : ∀ c o, cl.lookup c = some o → H c = none) {b : Addr} {o : HO} (h : H b = some o) : cl.lookup b = none := by
  cases r : cl.lookup b with
  | some u => rw [un b u r] at h; cases h
  | none => rfl
theorem add_none {D : Addr} (h : addC H cl D = none) : cl.lookup D = none ∧ H D = none := by
  cases r : cl.lookup D with
  | some u => rw [addC_in r] at h; cases h
  | none => rw [addC_out r] at h; exact ⟨rfl, h⟩
theorem del_upd_add (un : ∀ c o, cl.lookup c = some o → H c = none) {D : Addr} {o : HO} (hD : cl.lookup D = none) : delC (upd (addC H cl) D o) cl = upd H D o := by
  funext b
  cases r : cl.lookup b with
  | some u =>
    rw [delC_in r, upd_ne (fun z => by rw [z, hD] at r; cases r)]
    exact (un b u r).symm
  | none =>
    rw [delC_out r]
    by_cases hb : b = D
    · rw [hb, upd_same, upd_same]
    · rw [upd_ne hb, upd_ne hb, addC_out r]
theorem tabs_add (un : ∀ c o, cl.lookup c = some o → H c = none) (t : Tabs cs H) : Tabs cs (addC H cl) := fun p hp => by
  obtain ⟨ps, h1, h2⟩ := t p hp
  exact ⟨ps, add_at un h1, h2⟩
/-- what came of a heap with the cells told, the cells untold again -/
theorem ex_del (un : ∀ c o, cl.lookup c = some o → H c = none) (told : ∀ c o, cl.lookup c = some o → H' c = some (cellF o)) (x : Ex cs (addC H cl) H') : Ex cs H (delC H' cl) := by
  refine ⟨fun b o h n => ?_, fun p hp => ?_, fun b h => ?_, fun b o h n => ?_⟩
  · rw [delC_out (del_at un h)]
    exact x.ext b o (add_at un h) n
  · obtain ⟨ps, h1, h2⟩ := x.tab p hp
    have r : cl.lookup p.2 = none := by
      cases r : cl.lookup p.2 with
      | none => rfl
      | some u => rw [told _ u r] at h1; cases h1
    exact ⟨ps, by rw [delC_out r]; exact h1, h2⟩
  · cases r : cl.lookup b with
    | some u => exact un b u r
    | none =>
      rw [delC_out r] at h
      exact (add_none (x.old b h)).2
  · rw [delC_out (del_at un h)]
    exact x.oth b o (add_at un h) n
end
end TG

namespace TG
open PySem PySem.Spec PyProof.Rows L2 Gx
theorem fold_one (c : Nat) : ∀ (n : Nat) (acc : Array Nat), (List.replicate n (#[c] : Array Nat)).foldl (fun a b => a ++ b) acc = acc ++ (List.replicate n c).toArray
  | 0, acc => by simp
  | n + 1, acc => by
    rw [List.replicate_succ, List.foldl_cons, fold_one c n]
    apply Array.toList_inj.mp
    simp [List.replicate_succ]
def repS (c : Nat) (n : Nat) : Str := ⟨(List.replicate n c).toArray⟩
theorem cl_repS (c n : Nat) : cl (repS c n) = List.replicate n c := by simp [cl, repS]
section
variable {X : Cx}
def rRepS : V → V → Hp → VK → Prop := fun x y H Q => ∃ (c : Nat) (n : Int), x = .str ⟨#[c]⟩ ∧ y = .int n ∧ 0 ≤ n ∧ n ≤ 1000 ∧ Q (.str (repS c n.toNat)) H
theorem op_repS : OpR X (binaryOp .Mult) rRepS := by
  intro pins s σ H x y v u Q I rx ry h
  obtain ⟨c, n, rfl, rfl, h0, h1, q⟩ := h
  obtain ⟨t, rfl⟩ := rx
  obtain ⟨t', rfl⟩ := ry
  have hs : ((⟨#[c]⟩ : Str).length) = 1 := rfl
  refine PySem.P.mul_str ?_ (fun _ _ => ?_) (fun _ _ => ?_) ?_
  · rw [decide_eq_false (by omega), decide_eq_false (by omega)]
    rfl
  · rw [hs]
    have : (1 : Int) ≤ (2 ^ 63 - 1) / n := Int.le_ediv_of_mul_le (by omega) (by omega)
    omega
  · rw [hs, Nat.one_mul]
    have sz : (1000 : Nat) < sizeLine := by decide
    exact decide_eq_false (by omega)
  · by_cases e : n < 1
    · rw [if_pos e]
      have e0 : n = 0 := by omega
      subst e0
      exact ⟨by decide, .str (repS c (0 : Int).toNat), H, I.tok _, ⟨_, rfl⟩, q⟩
    · rw [if_neg e]
      by_cases e1 : n = 1
      · subst e1
        rw [if_pos (by rfl)]
        exact (⟨.str (repS c (1 : Int).toNat), H, I, ⟨_, rfl⟩, q⟩ : EP X pins σ Q _ _)
      · rw [if_neg (by rw [hs]; simp [e1])]
        have hf : (⟨(List.replicate n.toNat (#[c] : Array Nat)).foldl (· ++ ·) #[]⟩ : Str) = repS c n.toNat := by
          unfold repS
          rw [fold_one]
          simp
        show Made.post (.str ⟨(List.replicate n.toNat (#[c] : Array Nat)).foldl (· ++ ·) #[]⟩) _ _
        rw [hf]
        have sz : (1000 : Nat) < sizeLine := by decide
        have hl : (repS c n.toNat).length = n.toNat := by unfold repS; simp [Str.length]
        exact ⟨by omega, .str (repS c n.toNat), H, I.tok _, ⟨_, rfl⟩, q⟩
end
end TG

namespace TG
open PySem PySem.Spec PyProof.Rows L2 NdefX GenW Gx Lv
section
variable {X : Cx} {P : Program} {w : World} {K : PySem.W.Frag} {mg : Str → Option Value} {base : Heap} {cs : List (Addr × Addr)}
theorem sp32 : V.str (" " : Str) = V.str ⟨#[32]⟩ := by decide +kernel
def Sg (z : Str) : Prop := ∀ c ∈ cl z, SgOk c
theorem Sg.app {x y : Str} (h1 : Sg x) (h2 : Sg y) : Sg (x ++ y) := fun c hc => by
  have hc : c ∈ cl (x ++ y) := hc
  rw [cl_app] at hc
  rcases List.mem_append.mp hc with h | h
  · exact h1 c h
  · exact h2 c h
theorem Sg.rep (n : Nat) : Sg (repS 32 n) := fun c hc => by
  have hc : c ∈ cl (repS 32 n) := hc
  rw [cl_repS] at hc
  rw [(List.mem_replicate.mp hc).2]
  unfold SgOk
  omega
theorem rep_len (c n : Nat) : (repS c n).length = n := by rw [len_cl, cl_repS, List.length_replicate]
theorem app_len2 (x y : Str) : (x ++ y).length = x.length + y.length := by rw [len_cl, cl_app, List.length_append, ← len_cl, ← len_cl]
theorem Sg.cut {z : Str} (h : Sg z) (lo hi : Option Int) : Sg (cutS z lo hi) := fun c hc => by
  refine h c ?_
  have hc : c ∈ (cutS z lo hi).cps.toList := hc
  unfold cutS at hc
  simp only at hc
  exact List.mem_of_mem_drop (List.mem_of_mem_take hc)
theorem cut_to (z : Str) (n : Nat) : (cutS z none (some (n : Int))).length ≤ n := by
  have : (cutS z none (some (n : Int))).cps.toList.length ≤ n := by
    unfold cutS
    simp only [List.length_take, List.length_drop, Array.length_toList]
    have := HT.sIx_nat (n := z.length) (d := z.length) (k := n)
    rw [this]
    omega
  simpa [Str.length] using this
theorem dw_nil : ∀ {l : List Nat}, l.dropWhile blk = [] → ∀ c ∈ l, blk c = true
  | [], _, c, hc => by cases hc
  | a :: l, h, c, hc => by
    rw [List.dropWhile_cons] at h
    by_cases e : blk a = true
    · rw [if_pos e] at h
      rcases List.mem_cons.mp hc with z | z
      · rw [z]; exact e
      · exact dw_nil h c z
    · rw [if_neg e] at h
      cases h
theorem str_eq {x y : Str} (h : cl x = cl y) : x = y := by
  obtain ⟨⟨p⟩⟩ := x
  obtain ⟨⟨q⟩⟩ := y
  have h : p = q := h
  rw [h]
theorem map_cl_inj : ∀ {a b : List Str}, a.map cl = b.map cl → a = b
  | [], [], _ => rfl
  | [], _ :: _, h => by cases h
  | _ :: _, [], h => by cases h
  | x :: a, y :: b, h => by
    rw [List.map_cons, List.map_cons] at h
    injection h with h1 h2
    have e : x = y := by
      obtain ⟨⟨p⟩⟩ := x
      obtain ⟨⟨q⟩⟩ := y
      have h1 : p = q := h1
      rw [h1]
    rw [e, map_cl_inj h2]
theorem sign_eq (d : Nat) : decide (V.str ⟨#[d]⟩ = V.str " ") = decide (d = 32) := by
  rw [sp32]
  by_cases h : d = 32
  · rw [decide_eq_true h, h, decide_eq_true rfl]
  · rw [decide_eq_false h, decide_eq_false]
    intro q
    injection q with q
    injection q with q
    have := congrArg Array.toList q
    simp at this
    exact h this
theorem cl_nil : cl ("" : Str) = [] := by decide +kernel
theorem len_nil : ("" : Str).length = 0 := by decide +kernel
def lamIf : Stmt → LamT
  | .If (.UnaryOp _ (.Call _ [.List [.Lambda p b sc _] _, _] _ _) _) _ _ _ => (p, b, sc)
  | _ => ({ posonlyargs := [], args := [], vararg := none, kwonlyargs := [], kw_defaults := [], kwarg := none, defaults := [] }, .Name "x" ⟨0, 0, 0, 0⟩, sc00)
def forBody : Stmt → List Stmt
  | .For _ _ b _ _ => b
  | _ => []
def stAt (l : List Stmt) (i : Nat) : Stmt := l.getD i (.Pass ⟨0, 0, 0, 0⟩)
theorem sg_text {z : Str} (h1 : z.length ≤ 200) (h2 : Sg z) : textB z 200 = true := by
  unfold textB
  rw [decide_eq_true (show (z.length : Int) ≤ 200 by omega), Bool.true_and, List.all_eq_true]
  intro c hc
  exact sgB_iff.mpr (h2 c hc)
theorem noText_str {H : Hp} {z : Str} (h : NoText K H (.str z)) : False := by
  obtain ⟨nm, ty, hk⟩ := h
  cases ty with
  | base t =>
    cases t
    revert hk
    decide +kernel
/-- texts, and what is no text however the heap grows -/
def Firm (K : PySem.W.Frag) (cs : List (Addr × Addr)) (H : Hp) (xs : List V) : Prop := ∀ v ∈ xs, (∃ z, v = .str z) ∨ ∀ H', Ex cs H H' → NoText K H' v
theorem Firm.ex {H H' : Hp} {xs : List V} (f : Firm K cs H xs) (x : Ex cs H H') : Firm K cs H' xs := fun v hv => by
  rcases f v hv with h | h
  · exact .inl h
  · exact .inr fun H2 x2 => h H2 (x.trans x2)
theorem Firm.stays {H : Hp} {xs : List V} (f : Firm K cs H xs) : Stays K cs H xs := fun v hv hn H' x => by
  rcases f v hv with ⟨z, rfl⟩ | h
  · exact (noText_str hn).elim
  · exact h H' x
theorem BadLn.ex {H H' : Hp} {xs : List V} {n : Nat} (b : BadLn K H xs n) (f : Firm K cs H xs) (x : Ex cs H H') : BadLn K H' xs n :=
  ⟨b.lt, b.n30, b.ok, by
    rcases b.bad with h | ⟨v, hv, h | h⟩
    · exact .inl h
    · exact .inr ⟨v, hv, .inl (f.stays v (List.mem_of_getElem? hv) h H' x)⟩
    · exact .inr ⟨v, hv, .inr h⟩⟩
theorem told_upd {H : Hp} {cl : List (Addr × Obj)} {D : Addr} {o : HO} (h : cl.lookup D = none) : ∀ c u, cl.lookup c = some u → upd (addC H cl) D o c = some (cellF u) := fun c u e => by
  rw [upd_ne (fun z => by rw [z, h] at e; cases e)]
  exact addC_in e
theorem told_ex {H H' : Hp} {cl : List (Addr × Obj)} (x : Ex cs (addC H cl) H') : ∀ c o, cl.lookup c = some o → H' c = some (cellF o) := fun c o e => x.ext _ _ (addC_in e) fun ps z => by cases z
def repW (z : Str) (n : Nat) : Str := ⟨(List.replicate n z.cps).foldl (· ++ ·) #[]⟩
def rRepW : V → V → Hp → VK → Prop := fun x y H Q => ∃ (z : Str) (n : Int), x = .str z ∧ y = .int n ∧ 2 ≤ n ∧ n ≤ 200 ∧ 1 ≤ z.length ∧ z.length ≤ 5 ∧ Q (.str (repW z n.toNat)) H
theorem foldl_len : ∀ (n : Nat) (z acc : Array Nat), ((List.replicate n z).foldl (· ++ ·) acc).size = acc.size + n * z.size
  | 0, z, acc => by simp
  | n + 1, z, acc => by
    rw [List.replicate_succ, List.foldl_cons, foldl_len n z (acc ++ z), Array.size_append, Nat.succ_mul]
    omega
theorem repW_len (z : Str) (n : Nat) : (repW z n).length = n * z.length := by
  have h := foldl_len n z.cps #[]
  have e : (repW z n).length = ((List.replicate n z.cps).foldl (· ++ ·) #[]).size := rfl
  rw [e, h]
  show (#[] : Array Nat).size + n * z.cps.size = n * z.length
  simp [Str.length]
theorem op_repW : OpR X (binaryOp .Mult) rRepW := by
  intro pins s σ H x y v u Q I rx ry h
  obtain ⟨z, n, rfl, rfl, h0, h1, h2, h3, q⟩ := h
  obtain ⟨t, rfl⟩ := rx
  obtain ⟨t', rfl⟩ := ry
  have szl : (1000 : Nat) < sizeLine := by decide
  have hm : z.length * n.toNat ≤ 1000 := by
    have := Nat.mul_le_mul h3 (show n.toNat ≤ 200 by omega)
    omega
  have hn1 : ¬ n < 1 := by omega
  have hc : (n == 1 || z.length == 0) = false := by
    rw [Bool.or_eq_false_iff]
    exact ⟨by simp; omega, by simp; omega⟩
  refine PySem.P.mul_str ?_ (fun _ _ => ?_) (fun _ _ => ?_) ?_
  · rw [decide_eq_false (by omega), decide_eq_false (by omega)]
    rfl
  · have : (5 : Int) ≤ (2 ^ 63 - 1) / n := Int.le_ediv_of_mul_le (by omega) (by omega)
    omega
  · exact decide_eq_false (by omega)
  · rw [if_neg hn1, if_neg (by rw [hc]; exact Bool.false_ne_true)]
    have hl : (repW z n.toNat).length ≤ sizeLine := by
      rw [repW_len, Nat.mul_comm]
      omega
    exact ⟨hl, .str (repW z n.toNat), H, I.tok _, ⟨_, rfl⟩, q⟩
structure LnsAt (b l : Addr) (H : Hp) (D : Addr) (i : Nat) (H' : Hp) : Prop where
  box : BoxAt H' b l
  keep : KB b l H H'
  nD : H D = none
  db : D ≠ b
  dl : D ≠ l
  lns : ∃ zs : List Str, zs.length = i ∧ (∀ z ∈ zs, z.length ≤ 200 ∧ Sg z) ∧ H' D = some (.lst (sV zs))
theorem LnsAt.start {b l : Addr} {H H1 : Hp} {D : Addr} (hB : BoxAt H1 b l) (x : KB b l H H1) (n : H1 D = none) : LnsAt b l H D 0 (upd H1 D (.lst [])) := by
  obtain ⟨d1, d2⟩ := new_ne hB n
  have nD : H D = none := by
    cases e : H D with
    | none => rfl
    | some o => rw [x D o e d1 d2] at n; cases n
  exact ⟨box_new hB n, kb_upd x nD, nD, d1, d2, [], rfl, fun c h => by simp at h, upd_same⟩
theorem LnsAt.more {b l : Addr} {H H1 H2 : Hp} {D : Addr} {i : Nat} {z : Str} (o : LnsAt b l H D i H1) (hz : z.length ≤ 200 ∧ Sg z) (hB : BoxAt H2 b l) (x : KB b l H1 H2) :
    ∃ acc, H2 D = some (.lst acc) ∧ acc.length = i ∧ LnsAt b l H D (i + 1) (upd H2 D (.lst (acc ++ [.str z]))) := by
  obtain ⟨zs, h1, h2, h3⟩ := o.lns
  refine ⟨_, x D _ h3 o.db o.dl, by rw [List.length_map, h1], box_upd hB o.db o.dl, kb_upd (o.keep.trans x) o.nD, o.nD, o.db, o.dl, zs ++ [z], by rw [List.length_append, h1]; rfl, fun d hd => ?_, ?_⟩
  · rcases List.mem_append.mp hd with h | h
    · exact h2 d h
    · rw [List.mem_singleton.mp h]; exact hz
  · rw [upd_same]
    simp [sV]
theorem dok_parts {rows : List (List Str)} (hl : rows.length ≤ 1000) (h : ∀ r ∈ rows, r.length ≤ 1000) : dok (.list (rowsD rows)) = true := by
  have key : ∀ rs : List (List Str), (∀ r ∈ rs, r.length ≤ 1000) → dokAll (rowsD rs) = true := by
    intro rs
    induction rs with
    | nil => intro _; rfl
    | cons r rs ih =>
      intro h
      have h1 := h r List.mem_cons_self
      show dokAll (PyData.tuple (r.map .str) :: rowsD rs) = true
      simp only [dokAll, dok, Bool.and_eq_true, decide_eq_true_eq, List.length_map]
      exact ⟨⟨h1, dokAll_strs r⟩, ih fun q hq => h q (List.mem_cons_of_mem _ hq)⟩
  show (decide ((rowsD rows).length ≤ 1000) && dokAll (rowsD rows)) = true
  rw [key rows h, Bool.and_true, decide_eq_true_eq]
  unfold rowsD
  rw [List.length_map]
  exact hl
theorem cut_from (xs : List V) (n : Nat) : cutV xs (some ((n : Nat) : Int)) none = xs.drop n := by
  unfold cutV
  rw [HT.sIx_none, HT.sIx_nat]
  by_cases h : n ≤ xs.length
  · rw [Nat.min_eq_left h, List.take_of_length_le]
    rw [List.length_drop]
    exact Nat.le_refl _
  · rw [Nat.min_eq_right (by omega), Nat.sub_self, List.take_zero, List.drop_eq_nil_of_le (by omega)]
end
end TG

namespace TG
open PySem PySem.Spec PyProof.Rows L2 NdefX GenW Gx Lv
def spTakeW : Sp := fun vs H Q _ => ∃ (b l : Addr) (many : Int), vs = [.ref b, .int many] ∧ BoxAt H b l ∧ 0 < many ∧ many < 4611686018427387904 ∧
  ∀ (r : Int) (H' : Hp), 0 ≤ r → r < many → BoxAt H' b l → KB b l H H' → Q (.int r) H'
section
variable {P : Program} {w : World} {K : PySem.W.Frag} {mg : Str → Option Value} {base : Heap}
theorem ok_takeW {f : Addr} {fd : FuncData} (F : Fun K "_law_take" "_law_take" s_take f fd) : FnOk P w K mg base CX0 1 f fd ["_law_box", "_law_many"] spTakeW := by
  refine F.ok sc_take (fun vs H Q E h => ?_) (fun cdv A outer s H vs Q E hr h => ?_)
  · obtain ⟨b, l, many, rfl, _⟩ := h
    rfl
  · obtain ⟨b, l, many, rfl, hB, m0, m1, k⟩ := h
    have nd := sc_take.nd
    have hu := hr.units
    refine ⟨_, pss_cons (ps_if (pt_cmpR (op_eqD hu) (pe_ix ix_list (pv 0) pe_int (fun _ _ => rfl)) (pe_lst pa_nil) (nomark _))
        (pss_cons (ps_asg (pe_op op_modN (pe_op op_mul (pe_ix ix_list (pv 0) pe_int (fun _ _ => rfl)) pe_int) pe_int) (pg_sub (pv 0) pe_int set_list))
          (pss_one (ps_ret (pe_op op_modN (pe_op op_fdivN (pe_ix ix_list (pv 0) pe_int (fun _ _ => rfl)) pe_int) (pv 1))))) pss_nil)
      (pss_cons (ps_set (i := 2) nd rfl (.inl rfl) (pe_ix ix_list (pe_ix ix_list (pv 0) pe_int (fun _ _ => rfl)) pe_int (fun _ _ => rfl)))
      (pss_cons (ps_asg (pe_op op_fdivW (pv 2) (pv 1)) (pg_sub (pe_ix ix_list (pv 0) pe_int (fun _ _ => rfl)) pe_int set_list))
      (pss_cons (ps_if (PW.pt (pw_or (pt_cmpR op_eq (pe_ix ix_list (pe_ix ix_list (pv 0) pe_int (fun _ _ => rfl)) pe_int (fun _ _ => rfl)) pe_int (nomark _)) (pw_or1 (pt_cmpR op_eq (pe_ix ix_list (pe_ix ix_list (pv 0) pe_int (fun _ _ => rfl)) pe_int (fun _ _ => rfl)) (pe_un un_neg pe_int) (nomark _)))))
          (pss_one (ps_expr (pe_bm PySem.F.plainAttrs_list PySem.F.slot_list_pop PySem.F.type_list_pop mt_popAt (pe_ix ix_list (pv 0) pe_int (fun _ _ => rfl)) (pa_cons pe_int pa_nil)))) pss_nil)
      (pss_one (ps_ret (pe_op op_modN (pv 2) (pv 1))))))), ?_⟩
    obtain ⟨ns, st, h1, h2, h3⟩ := id hB
    have nbl := box_ne hB
    have len2 : ∀ o, (upd H b o) l = some (.lst (ns.map V.int)) := fun o => by rw [upd_ne nbl.symm]; exact h2
    -- _law_box[0] == []
    refine ⟨_, rfl, b, _, 0, .ref l, rfl, rfl, SqL.of h1, rfl, small0, fun p np => ?_⟩
    have npb : b ≠ p := ne_of_none h1 np
    have npl : l ≠ p := ne_of_none h2 np
    have g1 : (upd H p (.lst [])) b = some (.lst [.ref l, .int st]) := by rw [upd_ne npb]; exact h1
    have g2 : (upd H p (.lst [])) l = some (.lst (ns.map V.int)) := by rw [upd_ne npl]; exact h2
    have kp : KB b l H (upd H p (.lst [])) := fun c o e _ _ => by rw [upd_ne (ne_of_none e np)]; exact e
    refine ⟨.list (ns.map PyData.int), .list [], .lst (SqL.of g2) (dp_ints ns), .lst (SqL.of upd_same) .nil, shaped_of_ints ns, rfl, _, rfl, ?_⟩
    cases ns with
    | nil =>
      refine iteT ?_
      refine ⟨_, rfl, b, _, 1, .int st, rfl, rfl, SqL.of g1, rfl, st, 48271, rfl, rfl, .inr (by decide), _, _, rfl, rfl, nz (by decide), _, rfl, b, _, 1, 1, rfl, rfl, g1, rfl, ?_⟩
      refine ⟨_, rfl, b, _, 1, _, rfl, rfl, SqL.of upd_same, rfl, _, _, rfl, rfl, ⟨by decide, by decide⟩, _, rfl, _, _, rfl, rfl, nz (by omega), ?_⟩
      refine k _ _ (Int.fmod_nonneg_of_pos _ m0) (Int.fmod_lt_of_pos _ m0) ⟨[], _, upd_same, by rw [upd_ne nbl.symm]; exact g2, h3⟩ fun c o e hc hl => ?_
      rw [upd_ne hc]
      exact kp c o e hc hl
    | cons n ns =>
      refine iteF ?_
      refine ⟨_, rfl, b, _, 0, .ref l, rfl, rfl, SqL.of g1, rfl, l, _, 0, .int n, rfl, rfl, SqL.of g2, at0, ?_⟩
      refine ⟨_, rfl, _, rfl, n, many, rfl, rfl, wide_div m0 (show many.natAbs < 2 ^ 64 by omega) (by decide) (by decide), _, rfl, b, _, 0, .ref l, rfl, rfl, SqL.of g1, rfl, l, _, 0, 0, rfl, rfl, g2, ix0, ?_⟩
      have j1 : ∀ o, (upd (upd H p (.lst [])) l o) b = some (.lst [.ref l, .int st]) := fun o => by rw [upd_ne nbl]; exact g1
      have kl : ∀ o, KB b l H (upd (upd H p (.lst [])) l o) := fun o c u e hc hl => by rw [upd_ne hl]; exact kp c u e hc hl
      have fin : ∀ ms : List Int, ms.length ≤ 63 → Q (.int (n.fmod many)) (upd (upd H p (.lst [])) l (.lst (ms.map V.int))) := fun ms hm =>
        k _ _ (Int.fmod_nonneg_of_pos _ m0) (Int.fmod_lt_of_pos _ m0) ⟨ms, st, j1 _, upd_same, hm⟩ (kl _)
      have e0 : (List.map V.int (n :: ns)).set 0 (V.int (n / many)) = List.map V.int (n / many :: ns) := rfl
      rw [e0]
      -- == 0 or == -1
      refine ⟨_, rfl, b, _, 0, .ref l, rfl, rfl, SqL.of (j1 _), rfl, l, _, 0, .int (n / many), rfl, rfl, SqL.of upd_same, at0, rfl, _, rfl, ?_⟩
      have done : ∀ H', (∃ ms : List Int, ms.length ≤ 63 ∧ H' = upd (upd H p (.lst [])) l (.lst (ms.map V.int))) → ∃ v, ([some (V.ref b), some (V.int many), some (V.int n)] : L2.St)[2]? = some (some v) ∧ ∃ v_1, ([some (V.ref b), some (V.int many), some (V.int n)] : L2.St)[1]? = some (some v_1) ∧ ∃ i j, v = V.int i ∧ v_1 = V.int j ∧ j ≠ 0 ∧ Q (V.int (i.fmod j)) H' := fun H' ⟨ms, hm, e⟩ => by
        subst e
        exact ⟨_, rfl, _, rfl, n, many, rfl, rfl, nz (by omega), fin ms hm⟩
      have pop : ∀ Z : VK, (∀ y H', H' = upd (upd H p (.lst [])) l (.lst (ns.map V.int)) → Z y H') → rPopAt (.ref l) [.int 0] (upd (upd H p (.lst [])) l (.lst (List.map V.int (n / many :: ns)))) Z := fun Z hZ =>
        ⟨l, _, 0, 0, _, rfl, rfl, upd_same, by decide, by decide, by simp [seqIndex?], rfl, hZ _ _ (by rw [upd_upd]; rfl)⟩
      have h3' : ns.length ≤ 63 := by simp at h3; omega
      by_cases hz : n / many = 0
      · rw [decide_eq_true (show V.int (n / many) = V.int 0 by rw [hz])]
        refine iteT (iteT ⟨_, rfl, b, _, 0, .ref l, rfl, rfl, SqL.of (j1 _), rfl, .inl ⟨rfl, _, SqL.of upd_same⟩, pop _ fun y H' e => done H' ⟨ns, h3', e⟩⟩)
      · rw [decide_eq_false (show ¬ V.int (n / many) = V.int 0 from fun z => hz (by injection z))]
        refine iteF ⟨_, rfl, b, _, 0, .ref l, rfl, rfl, SqL.of (j1 _), rfl, l, _, 0, .int (n / many), rfl, rfl, SqL.of upd_same, at0, 1, rfl, rfl, _, rfl, ?_⟩
        refine ite2 (fun _ => ⟨_, rfl, b, _, 0, .ref l, rfl, rfl, SqL.of (j1 _), rfl, .inl ⟨rfl, _, SqL.of upd_same⟩, pop _ fun y H' e => done H' ⟨ns, h3', e⟩⟩) fun _ => ?_
        exact done _ ⟨n / many :: ns, h3, rfl⟩
end
end TG

namespace TG
open PySem PySem.Spec PyProof.Rows L2 NdefX GenW Gx Lv
section
variable {P : Program} {w : World} {K : PySem.W.Frag} {mg : Str → Option Value} {base : Heap} {cs : List (Addr × Addr)}
theorem sg_nil : Sg ("" : Str) := fun c hc => by
  have hc : c ∈ cl ("" : Str) := hc
  rw [cl_nil] at hc
  cases hc
def spLineD : Sp := fun vs H Q _ => ∃ (b l : Addr), vs = [.ref b] ∧ BoxAt H b l ∧ ∀ (z : Str) (H' : Hp), z.length ≤ 200 → Sg z → BoxAt H' b l → KB b l H H' → Q (.str z) H'
abbrev nmLine : List Str := ["_law_box", "_law_found", "_law_turn", "_law_word", "_law_k"]
theorem sc_line : FnScope nmLine ["_law_box"] (defScope s_line) := ⟨rfl, rfl, rfl, by decide +kernel, rfl, by decide +kernel, by decide +kernel⟩
theorem ok_line {f g g2 : Addr} {fd fdg fd2 : FuncData} (T : Txt mg) (F : Fun K "_law_line" "_law_line" s_line f fd)
    (G : FnOk P w K mg base CX0 1 g fdg ["_law_box", "_law_many"] spTake) (kp : PySem.W.keepIn K (.ref g) = true) (bd : Binds K fdg ["_law_box", "_law_many"] []) (mgg : mg "_law_take" = some (.ref g))
    (G2 : FnOk P w K mg base CX0 2 g2 fd2 ["_law_box"] spSign) (kp2 : PySem.W.keepIn K (.ref g2) = true) (bd2 : Binds K fd2 ["_law_box"] []) (mg2 : mg "_law_sign" = some (.ref g2)) : FnOk P w K mg base CX0 3 f fd ["_law_box"] spLineD := by
  refine F.ok sc_line (fun vs H Q E h => ?_) (fun cdv A outer s H vs Q E hr h => ?_)
  · obtain ⟨b, l, rfl, _⟩ := h
    rfl
  · obtain ⟨b, l, rfl, hB, k⟩ := h
    have nd := sc_line.nd
    have hr1 : Room 1 _ := hr.mono (by decide)
    have szl : (1000 : Nat) < sizeLine := by decide
    refine ⟨_, pss_cons (ps_set (i := 1) nd rfl (.inl rfl) pe_str)
      (pss_cons (ps_for PassesOwn.never rfl (pi_range1 (by rfl) T.range (pa_cons (pe_call G hr1 (by rfl) mgg kp bd .nil pass0 (pa_cons (pv 0) (pa_cons pe_int pa_nil))) pa_nil)) (pg_name (i := 2) nd rfl (.inl rfl))
        (pss_cons (ps_set (i := 3) nd rfl (.inl rfl) (pe_join pe_str (pe_lc (own := [("_law_k", 4)]) (g := gName 4) (tt := tYes) rfl nd (pi_range1 (by rfl) T.range (pa_cons (pe_call G hr1 (by rfl) mgg kp bd .nil pass0 (pa_cons (pv 0) (pa_cons pe_int pa_nil))) pa_nil)) (blkOk_by (own := [("_law_k", 4)]) (N := nmLine) (sc := defScope s_line) (by decide +kernel)) (fun _ _ _ _ _ => pg_name (i := 4) nd rfl (Or.inl rfl)) (fun _ _ _ _ _ => pts_nil) (fun s1 H1 C1 cl1 fp1 => pe_call G2 hr (by rfl) mg2 kp2 bd2 .nil pass0 (pa_cons (pv 0) pa_nil)))))
        (pss_one (ps_set (i := 1) nd rfl (.inl rfl) (pe_op op_add_str (pe_op op_add_str (pv 1) (pv 3)) (pe_op op_repS pe_str (pe_call G hr1 (by rfl) mgg kp bd .nil pass0 (pa_cons (pv 0) (pa_cons (pe_ix ix_list (pe_lst (pa_cons pe_int (pa_cons pe_int (pa_cons pe_int pa_nil)))) (pe_call G hr1 (by rfl) mgg kp bd .nil pass0 (pa_cons (pv 0) (pa_cons pe_int pa_nil))) (fun _ _ => rfl)) pa_nil)))))))))
      (pss_one (ps_ret (pe_slice sl_str (pv 1) po_none (po_some pe_int))))), ?_⟩
    refine ⟨_, rfl, b, l, 7, rfl, hB, by decide, by decide, fun t H5 t0 t1 hB5 x5 => ⟨_, rfl, by omega, by omega, ?_⟩⟩
    refine for_range (n := t.toNat) (fun i σ H' => ∃ (z : Str) (c2 c3 c4 : Option V), σ = [some (.ref b), some (.str z), c2, c3, c4] ∧ z.length ≤ 43 * i ∧ Sg z ∧ BoxAt H' b l ∧ KB b l H H') ⟨_, none, none, none, rfl, by rw [len_nil]; exact Nat.zero_le _, sg_nil, hB5, x5⟩ ?_ ?_
    · rintro i σ H6 hi ⟨z, c2, c3, c4, rfl, hz, sz, hB6, y6⟩
      refine ⟨⟨_, rfl⟩, _, rfl, b, l, 5, rfl, hB6, by decide, by decide, fun u H7 u0 u1 hB7 x7 => ⟨u, rfl, by omega, by omega, fun D nD => ?_⟩⟩
      refine lc_range (n := u.toNat) (fun i H' => OnesAt b l H D i H') (OnesAt.start hB7 (y6.trans x7) nD hB) ?_ ?_
      · rintro i H8 hi o
        refine ⟨rfl, _, rfl, b, l, rfl, o.box, fun c H9 hc hB9 x9 => ?_⟩
        obtain ⟨acc, hacc, hl, o2⟩ := o.more (c := c) hc hB9 x9
        exact ⟨acc, hacc, by omega, o2⟩
      · rintro H8 o
        obtain ⟨ys, hD, h1, h2, h3⟩ := o.done
        have ck := h3 (by omega)
        have jl : (Txt.join "" ys).length ≤ 4 := by
          have e : (Txt.join "" ys).length = (ys.map fun y => y.length).sum := by
            rw [len_cl, cl_join]
            clear h1 h2 h3 hD ck o
            induction ys with
            | nil => rfl
            | cons y ys ih => rw [List.map_cons, List.flatten_cons, List.length_append, ih, List.map_cons, List.sum_cons, ← len_cl]
          rw [e, h2]
          omega
        have hBo := o.box
        have ko := o.keep
        clear o
        refine ⟨_, D, ys, rfl, rfl, .inl (SqL.of hD), by rw [h2, emp_len]; omega, ?_⟩
        refine ⟨_, rfl, _, rfl, _, _, rfl, rfl, by omega, ?_⟩
        refine ⟨_, rfl, line10 (by decide), fun p np => ⟨_, rfl, b, l, 3, rfl, box_new hBo np, by decide, by decide, fun r H2 r0 r1 hB2 x2 => ?_⟩⟩
        obtain ⟨nb, nl⟩ := new_ne hBo np
        have hp2 := x2 p _ upd_same nb nl
        have y2 := (kb_new (b := b) (l := l) (o := .lst [V.int 3, V.int 12, V.int 40]) np).trans x2
        obtain ⟨m, hm, em⟩ := pick (xs := [(3 : Int), 12, 40]) (i := r) r0 r1
        have hm2 : 0 < m ∧ m ≤ 40 := by
          simp only [List.mem_cons, List.not_mem_nil, or_false] at hm
          omega
        refine ⟨p, _, _, .int m, rfl, rfl, SqL.of hp2, atI_map (f := V.int) em, b, l, m, rfl, hB2, hm2.1, by omega, fun n H3 n0 n1 hB3 x3 => ⟨32, n, sp32, rfl, n0, by omega, _, _, rfl, rfl, by rw [rep_len, app_len2]; omega, ?_⟩⟩
        refine ⟨_, _, _, _, rfl, ?_, (sz.app ck.sg).app (Sg.rep _), hB3, ko.trans (y2.trans x3)⟩
        rw [app_len2, app_len2, rep_len]
        omega
    · rintro σ H6 ⟨z, c2, c3, c4, rfl, hz, sz, hB6, y6⟩
      refine ⟨_, rfl, 200, rfl, z, rfl, by omega, ?_⟩
      exact k _ H6 (cut_to z 200) (sz.cut _ _) hB6 y6
/-! ### left ends drawn -/
structure NumsAt (b l : Addr) (H : Hp) (D : Addr) (i : Nat) (H' : Hp) : Prop where
  box : BoxAt H' b l
  keep : KB b l H H'
  nD : H D = none
  db : D ≠ b
  dl : D ≠ l
  nums : ∃ ns : List Int, ns.length = i ∧ PlOk ns ∧ H' D = some (.lst (iV ns))
theorem NumsAt.start {b l : Addr} {H H1 : Hp} {D : Addr} (hB : BoxAt H1 b l) (x : KB b l H H1) (n : H1 D = none) : NumsAt b l H D 0 (upd H1 D (.lst [])) := by
  obtain ⟨d1, d2⟩ := new_ne hB n
  have nD : H D = none := by
    cases e : H D with
    | none => rfl
    | some o => rw [x D o e d1 d2] at n; cases n
  exact ⟨box_new hB n, kb_upd x nD, nD, d1, d2, [], rfl, fun c h => by simp at h, upd_same⟩
theorem NumsAt.more {b l : Addr} {H H1 H2 : Hp} {D : Addr} {i : Nat} {m : Int} (o : NumsAt b l H D i H1) (hm : 0 ≤ m ∧ m ≤ 200) (hB : BoxAt H2 b l) (x : KB b l H1 H2) :
    ∃ acc, H2 D = some (.lst acc) ∧ acc.length = i ∧ NumsAt b l H D (i + 1) (upd H2 D (.lst (acc ++ [.int m]))) := by
  obtain ⟨zs, h1, h2, h3⟩ := o.nums
  refine ⟨_, x D _ h3 o.db o.dl, by rw [List.length_map, h1], box_upd hB o.db o.dl, kb_upd (o.keep.trans x) o.nD, o.nD, o.db, o.dl, zs ++ [m], by rw [List.length_append, h1]; rfl, fun d hd => ?_, ?_⟩
  · rcases List.mem_append.mp hd with h | h
    · exact h2 d h
    · rw [List.mem_singleton.mp h]; exact hm
  · rw [upd_same]
    simp [iV]
def spLeftsD : Sp := fun vs H Q _ => ∃ (b l : Addr) (z : Str), vs = [.ref b, .str z] ∧ z.length ≤ 200 ∧ BoxAt H b l ∧ ∀ (r : Addr) (ns : List Int) (H' : Hp), EndsOk ns → 1 ≤ ns.length → BoxAt H' b l → KB b l H H' → H r = none → r ≠ b → r ≠ l → H' r = some (.lst (iV ns)) → Q (.ref r) H'
abbrev nmLefts : List Str := ["_law_box", "_law_line_here", "_law_some", "_law_k"]
theorem sc_lefts : FnScope nmLefts ["_law_box", "_law_line_here"] (defScope s_lefts) := ⟨rfl, rfl, rfl, by decide +kernel, rfl, by decide +kernel, by decide +kernel⟩
theorem ok_lefts {f g : Addr} {fd fdg : FuncData} (T : Txt mg) (hs : mg "sorted" = none) (F : Fun K "_law_lefts" "_law_lefts" s_lefts f fd)
    (G : FnOk P w K mg base CX0 1 g fdg ["_law_box", "_law_many"] spTake) (kp : PySem.W.keepIn K (.ref g) = true) (bd : Binds K fdg ["_law_box", "_law_many"] []) (mgg : mg "_law_take" = some (.ref g)) : FnOk P w K mg base CX0 2 f fd ["_law_box", "_law_line_here"] spLeftsD := by
  refine F.ok sc_lefts (fun vs H Q E h => ?_) (fun cdv A outer s H vs Q E hr h => ?_)
  · obtain ⟨b, l, z, rfl, _⟩ := h
    rfl
  · obtain ⟨b, l, z, rfl, hz, hB, k⟩ := h
    have nd := sc_lefts.nd
    have szl : (1000 : Nat) < sizeLine := by decide
    refine ⟨_, pss_cons (ps_setLc (i := 2) (own := [("_law_k", 3)]) (g := gName 3) rfl nd rfl rfl (sw_true rfl rfl rfl (by decide +kernel)) (pi_range1 (by rfl) T.range (pa_cons (pe_call G hr (by rfl) mgg kp bd .nil pass0 (pa_cons (pv 0) (pa_cons pe_int pa_nil))) pa_nil)) (blkOk_by (own := [("_law_k", 3)]) (N := nmLefts) (sc := defScope s_lefts) (by decide +kernel)) (fun _ _ _ _ _ => pg_name (i := 3) nd rfl (Or.inl rfl)) (fun _ _ _ _ _ => pts_nil)
        (fun s1 H1 C1 cl1 fp1 => pe_call G hr (by rfl) mgg kp bd .nil pass0 (pa_cons (pv 0) (pa_cons (pe_ix (r := rIxL K) ix_list (pe_lst (pa_cons (pe_op op_add (pe_callB call_len_str (by rfl) T.len PySem.boot_len (pa_cons (pv 1) pa_nil)) pe_int) (pa_cons pe_int pa_nil))) (pe_callTy call_int1 (by rfl) T.int (by decide +kernel) (pa_cons (pe_cmpR op_eq (pe_call G hr (by rfl) mgg kp bd .nil pass0 (pa_cons (pv 0) (pa_cons pe_int pa_nil))) pe_int (nomark _)) pa_nil)) (fun _ _ => rfl)) pa_nil))))
      (pss_one (ps_ret (pe_op op_cat (pe_lst (pa_cons pe_int pa_nil)) (pe_callB cr_sorted (by rfl) hs (by decide +kernel) (pa_cons (pv 2) pa_nil))))), ?_⟩
    refine ⟨_, rfl, b, l, 6, rfl, hB, by decide, by decide, fun u H1 u0 u1 hB1 x1 => ⟨u, rfl, by omega, by omega, fun D nD => ?_⟩⟩
    refine lc_range (n := u.toNat) (fun i H' => NumsAt b l H D i H') (NumsAt.start hB1 x1 nD) ?_ ?_
    · rintro i H2 hi o
      refine ⟨rfl, _, rfl, _, rfl, z, rfl, by omega, _, _, rfl, rfl, by show 2 ≤ sizeLine; decide, fun p np => ⟨_, rfl, b, l, 6, rfl, box_new o.box np, by decide, by decide, fun r H3 r0 r1 hB3 x3 => ?_⟩⟩
      obtain ⟨nb, nl⟩ := new_ne o.box np
      have hp3 := x3 p _ upd_same nb nl
      have y3 := (kb_new (b := b) (l := l) np).trans x3
      obtain ⟨e, he0, he1, he2⟩ : ∃ e : Int, e = (if decide (V.int r = V.int 0) = true then 1 else 0) ∧ 0 ≤ e ∧ e < 2 := by
        refine ⟨_, rfl, ?_⟩
        split <;> decide
      obtain ⟨m, hm, em⟩ := pick (xs := [((z.length : Nat) : Int) + 1, 201]) (i := e) he1 he2
      have hm2 : 0 < m ∧ m ≤ 201 := by
        simp only [List.mem_cons, List.not_mem_nil, or_false] at hm
        omega
      refine ⟨rfl, .inr ⟨_, rfl, p, _, e, .int m, rfl, by rw [he0], SqL.of hp3, atI_map (f := V.int) em, b, l, m, rfl, hB3, hm2.1, by omega, fun n H4 n0 n1 hB4 x4 => ?_⟩⟩
      obtain ⟨acc, hacc, hl, o2⟩ := o.more (m := n) ⟨n0, by omega⟩ hB4 (y3.trans x4)
      exact ⟨acc, hacc, by omega, o2⟩
    · rintro H2 o
      obtain ⟨ns, hl, hp, hD⟩ := o.nums
      refine ⟨by show 1 ≤ sizeLine; decide, fun q nq => ?_⟩
      have hD2 : upd H2 q (.lst [.int 0]) D = some (.lst (iV ns)) := by rw [upd_ne (ne_of_none hD nq)]; exact hD
      refine ⟨_, rfl, D, ns, rfl, SqL.of hD2, by omega, fun ns' r hp1 hp2 nr => ?_⟩
      have hq2 : upd (upd H2 q (.lst [.int 0])) r (.lst (iV ns')) q = some (.lst [.int 0]) := by
        rw [upd_ne (fun z => by rw [← z, upd_same] at nr; cases nr), upd_same]
      refine ⟨q, r, _, _, rfl, rfl, hq2, upd_same, by rw [List.length_map, hp1.length_eq, List.length_singleton]; omega, fun t nt => ?_⟩
      have nq0 : H2 q = none := nq
      have kb : KB b l H (upd (upd (upd H2 q (.lst [.int 0])) r (.lst (iV ns'))) t (.lst ([.int 0] ++ iV ns'))) := o.keep.trans (((kb_new nq).trans (kb_new nr)).trans (kb_new nt))
      have hB5 := box_new (o := .lst ([.int 0] ++ iV ns')) (box_new (o := .lst (iV ns')) (box_new (o := .lst [.int 0]) o.box nq) nr) nt
      obtain ⟨ntb, ntl⟩ := new_ne (box_new (o := .lst (iV ns')) (box_new (o := .lst [.int 0]) o.box nq) nr) nt
      have nt0 : H t = none := by
        cases e : H t with
        | none => rfl
        | some u =>
          have h1 := o.keep t u e ntb ntl
          have h2 : H2 t = none := (Gx.upd_none (Gx.upd_none nt).1).1
          rw [h1] at h2
          cases h2
      have hpl : PlOk ns' := fun n hn => hp n (hp1.mem_iff.mp hn)
      refine k t (0 :: ns') _ ⟨fun n hn => ?_, rfl, by rw [List.length_cons, hp1.length_eq]; omega, List.pairwise_cons.mpr ⟨fun n hn => (hpl n hn).1, hp2⟩⟩ (by simp) hB5 kb nt0 ntb ntl (by rw [upd_same]; rfl)
      rcases List.mem_cons.mp hn with e | e
      · rw [e]; decide
      · exact hpl n e
end
end TG

namespace TG
open PySem PySem.Spec PyProof.Rows L2 NdefX GenW Gx Lv
/-! ### cutting step by step -/
theorem cut_end (z : Str) : cl (cutS z (some (-1)) none) = (cl z).drop ((cl z).length - 1) := by
  obtain ⟨⟨l⟩⟩ := z
  unfold cutS
  simp only [cl, Str.length]
  rw [HT.sIx_none]
  have e : HT.sIx (List.toArray l).size 0 (some (-1)) = l.length - 1 := by
    unfold HT.sIx
    simp
    omega
  rw [e]
  simp
  rw [List.take_of_length_le]
  rw [List.length_drop]
  omega
theorem cut_less (z : Str) : cl (cutS z none (some (-1))) = (cl z).take ((cl z).length - 1) := by
  obtain ⟨⟨l⟩⟩ := z
  unfold cutS
  simp only [cl, Str.length]
  rw [HT.sIx_none]
  have e : HT.sIx (List.toArray l).size (List.toArray l).size (some (-1)) = l.length - 1 := by
    unfold HT.sIx
    simp
    omega
  rw [e]
  simp
theorem cut_lo (z : Str) (n : Nat) : cl (cutS z (some ((n : Nat) : Int)) none) = (cl z).drop n := by
  obtain ⟨⟨l⟩⟩ := z
  unfold cutS
  simp only [cl, Str.length]
  rw [HT.sIx_none, HT.sIx_nat]
  simp
  by_cases h : n ≤ l.length
  · rw [Nat.min_eq_left h, List.take_of_length_le]
    rw [List.length_drop]
    exact Nat.le_refl _
  · rw [Nat.min_eq_right (by omega), Nat.sub_self, List.take_zero, List.drop_eq_nil_of_le (by omega)]
theorem cut_hi (z : Str) (n : Nat) : cl (cutS z none (some ((n : Nat) : Int))) = (cl z).take n := by
  obtain ⟨⟨l⟩⟩ := z
  unfold cutS
  simp only [cl, Str.length]
  rw [HT.sIx_none, HT.sIx_nat]
  simp
theorem cut_both (z : Str) (n m : Nat) (h : n ≤ m) : cl (cutS z (some ((n : Nat) : Int)) (some ((m : Nat) : Int))) = ((cl z).drop n).take (m - n) := by
  obtain ⟨⟨l⟩⟩ := z
  unfold cutS
  simp only [cl, Str.length]
  rw [HT.sIx_nat, HT.sIx_nat]
  simp
  by_cases h1 : n ≤ l.length
  · rw [Nat.min_eq_left h1]
    by_cases h2 : m ≤ l.length
    · rw [Nat.min_eq_left h2]
    · rw [Nat.min_eq_right (by omega), List.take_of_length_le (by rw [List.length_drop]; exact Nat.le_refl _), List.take_of_length_le (by rw [List.length_drop]; omega)]
  · rw [Nat.min_eq_right (by omega), Nat.min_eq_right (by omega), Nat.sub_self, List.take_zero, List.drop_eq_nil_of_le (by omega), List.take_nil]
theorem cl_sp : cl (" " : Str) = [32] := by decide +kernel
theorem sp_eq (y : Str) : decide (V.str y = V.str " ") = decide (cl y = [32]) := by
  by_cases h : cl y = [32]
  · rw [decide_eq_true h, decide_eq_true]
    rw [str_eq (h.trans cl_sp.symm)]
  · rw [decide_eq_false h, decide_eq_false]
    intro q
    injection q with q
    exact h (by rw [q]; exact cl_sp)
theorem dw_step {l : List Nat} (h : l.take 1 = [32]) : l.tail.dropWhile blk = l.dropWhile blk ∧ l.tail.length + 1 = l.length := by
  cases l with
  | nil => cases h
  | cons a l =>
    have e : a = 32 := by simpa using h
    subst e
    exact ⟨by rw [List.dropWhile_cons, if_pos (by rfl)]; rfl, rfl⟩
theorem dw_halt {l : List Nat} (h : ¬ l.take 1 = [32]) : l.dropWhile blk = l := dw_stay fun a r e => by
  refine decide_eq_false fun z => h ?_
  rw [e, z]
  rfl
theorem last_rev (l : List Nat) : (l.drop (l.length - 1) = [32]) ↔ l.reverse.take 1 = [32] := by
  have e : l.reverse.take 1 = (l.drop (l.length - 1)).reverse := by
    rw [List.take_reverse]
  rw [e]
  constructor
  · intro h
    rw [h]
    rfl
  · intro h
    have := congrArg List.reverse h
    rw [List.reverse_reverse] at this
    exact this
theorem less_rev (l : List Nat) : (l.take (l.length - 1)).reverse = l.reverse.tail := by
  rw [← List.dropLast_eq_take, List.tail_reverse]
section
variable {P : Program} {w : World} {K : PySem.W.Frag} {mg : Str → Option Value} {base : Heap} {cs : List (Addr × Addr)}
def spCutL (K : PySem.W.Frag) (cs : List (Addr × Addr)) : Sp := fun vs H Q _ => ∃ (z : Str) (t : Addr) (ns : List Int), vs = [.str z, .ref t] ∧ z.length ≤ 200 ∧ Tabs cs H ∧ SqL K H t (iV ns) ∧ EndsOk ns ∧
  ∀ (r : Addr) (H' : Hp), Ex cs H H' → H r = none → H' r = some (.tup (sV (cutR z ns))) → Q (.ref r) H'
abbrev nmCutL : List Str := ["_law_line_here", "_law_lefts_here", "_law_found", "_law_k", "_law_text"]
theorem sc_cutL : FnScope nmCutL ["_law_line_here", "_law_lefts_here"] (defScope s_lcut) := ⟨rfl, rfl, rfl, by decide +kernel, rfl, by decide +kernel, by decide +kernel⟩
theorem ok_cutL {f : Addr} {fd : FuncData} (T : Txt mg) (F : Fun K "_law_cut" "_law_cut" s_lcut f fd) : FnOk P w K mg base CX0 1 f fd ["_law_line_here", "_law_lefts_here"] (spCutL K cs) := by
  refine F.ok sc_cutL (fun vs H Q E h => ?_) (fun cdv A outer s H vs Q E hr h => ?_)
  · obtain ⟨z, t, ns, rfl, _⟩ := h
    rfl
  · obtain ⟨z, t, ns, rfl, hz, hT, hS, hO, k⟩ := h
    have nd := sc_cutL.nd
    have szl : (1000 : Nat) < sizeLine := by decide
    refine ⟨_, pss_cons (ps_set (i := 2) nd rfl (.inl rfl) (pe_lst pa_nil))
      (pss_cons (ps_for PassesOwn.never rfl (pi_range1 (by rfl) T.range (pa_cons (pe_callB call_len_seq (by rfl) T.len PySem.boot_len (pa_cons (pv 1) pa_nil)) pa_nil)) (pg_name (i := 3) nd rfl (.inl rfl))
        (pss_cons (ps_set (i := 4) nd rfl (.inl rfl) (pe_slice sl_str (pv 0) (po_some (pe_ix ix_list (pv 1) (pv 3) (fun _ _ => rfl))) po_none))
        (pss_cons (ps_if (pt_cmpR op_lt (pe_op op_add (pv 3) pe_int) (pe_callB call_len_seq (by rfl) T.len PySem.boot_len (pa_cons (pv 1) pa_nil)) (nomark _))
          (pss_one (ps_set (i := 4) nd rfl (.inl rfl) (pe_slice sl_str (pv 4) po_none (po_some (pe_op op_sub (pe_ix ix_list (pv 1) (pe_op op_add (pv 3) pe_int) (fun _ _ => rfl)) (pe_ix ix_list (pv 1) (pv 3) (fun _ _ => rfl))))))) pss_nil)
        (pss_cons (ps_while PassesOwn.never (pt_cmpR op_eq (pe_slice sl_str (pv 4) po_none (po_some pe_int)) pe_str (nomark _)) (pss_one (ps_set (i := 4) nd rfl (.inl rfl) (pe_slice sl_str (pv 4) (po_some pe_int) po_none))))
        (pss_cons (ps_while PassesOwn.never (pt_cmpR op_eq (pe_slice sl_str (pv 4) (po_some (pe_un un_neg pe_int)) po_none) pe_str (nomark _)) (pss_one (ps_set (i := 4) nd rfl (.inl rfl) (pe_slice sl_str (pv 4) po_none (po_some (pe_un un_neg pe_int))))))
        (pss_one (ps_expr (pe_bm PySem.F.plainAttrs_list PySem.F.slot_list_append PySem.F.type_list_append mt_append (pv 2) (pa_cons (pv 4) pa_nil)))))))))
      (pss_one (ps_ret (pe_callTy call_tuple_of (by rfl) T.tuple (by decide +kernel) (pa_cons (pv 2) pa_nil))))), ?_⟩
    refine ⟨small0, fun D nD => ?_⟩
    have x0 := Ex.laid (o := .lst []) hT nD
    have hl6 := hO.len
    have lnn : (iV ns).length = ns.length := List.length_map ..
    refine ⟨_, rfl, t, _, rfl, .inl (x0.sqL hS), _, rfl, by omega, by omega, ?_⟩
    refine for_range (n := (((iV ns).length : Nat) : Int).toNat) (fun i σ H' => ∃ (c3 c4 : Option V), σ = [some (.str z), some (.ref t), some (.ref D), c3, c4] ∧ Ex cs H H' ∧ H' D = some (.lst (sV ((cutR z ns).take i)))) ⟨none, none, rfl, x0, upd_same⟩ ?_ ?_
    · rintro i σ H1 hi ⟨c3, c4, rfl, x1, hD⟩
      have hi2 : i < ns.length := by omega
      have hS1 := x1.sqL hS
      obtain ⟨a, ha⟩ := getP hi2
      obtain ⟨a0, a1⟩ := hO.pl a (List.mem_of_getElem? ha)
      obtain ⟨n, rfl⟩ := Int.eq_ofNat_of_zero_le a0
      have hcut : cl (cutAt z ns i) = stripL (match ns[i + 1]? with | some b => ((cl z).drop n).take (b.toNat - n) | none => (cl z).drop n) := by
        unfold cutAt
        rw [cl_strip]
        have e1 : ns.getD i 0 = ((n : Nat) : Int) := by rw [List.getD_eq_getElem?_getD, ha]; rfl
        rw [e1]
        cases hb : ns[i + 1]? with
        | some b =>
          have hb0 := hO.pl b (List.mem_of_getElem? hb)
          obtain ⟨m, rfl⟩ := Int.eq_ofNat_of_zero_le hb0.1
          have e2 : (behindR z ns).getD i 0 = ((m : Nat) : Int) := by
            unfold behindR
            have hb2 : ns.tail[i]? = some ((m : Nat) : Int) := by rw [List.getElem?_tail]; exact hb
            rw [List.getD_eq_getElem?_getD, List.getElem?_append_left (List.getElem?_eq_some_iff.mp hb2).1, hb2]
            rfl
          have hle : n ≤ m := by
            have := List.pairwise_iff_getElem.mp hO.up i (i + 1) hi2 (List.getElem?_eq_some_iff.mp hb).1 (by omega)
            rw [List.getElem?_eq_getElem hi2] at ha
            rw [List.getElem?_eq_getElem (List.getElem?_eq_some_iff.mp hb).1] at hb
            injection ha with ha
            injection hb with hb
            rw [ha, hb] at this
            omega
          rw [e2, cut_both z n m hle]
          rfl
        | none =>
          have e0 : i + 1 = ns.length := by
            have := List.getElem?_eq_none_iff.mp hb
            omega
          have e2 : (behindR z ns).getD i 0 = ((z.length : Nat) : Int) := by
            unfold behindR
            have hl : ns.tail.length = i := by rw [List.length_tail]; omega
            rw [List.getD_eq_getElem?_getD, List.getElem?_append_right (by omega), hl, Nat.sub_self]
            rfl
          rw [e2]
          show stripL (cl (cutS z (some ((n : Nat) : Int)) (some ((z.length : Nat) : Int)))) = stripL ((cl z).drop n)
          by_cases hle : n ≤ z.length
          · rw [cut_both z n z.length hle, List.take_of_length_le]
            rw [List.length_drop, ← len_cl]
            exact Nat.le_refl _
          · have : cl (cutS z (some ((n : Nat) : Int)) (some ((z.length : Nat) : Int))) = [] := by
              unfold cutS
              simp only [cl]
              rw [HT.sIx_nat, HT.sIx_nat, Nat.min_eq_right (show z.length ≤ n by omega), show min z.length z.length - z.length = 0 by omega, List.take_zero]
            rw [this, List.drop_eq_nil_of_le (by rw [← len_cl]; omega)]
      refine ⟨_, rfl, _, rfl, _, rfl, t, _, _, .int ((n : Nat) : Int), rfl, rfl, hS1, by rw [Int.zero_add]; exact atI_map (f := V.int) (atI_nat ha), _, rfl, ?_⟩
      simp only [tNoPart]
      refine ⟨z, rfl, by omega, ?_⟩
      refine ⟨_, rfl, _, _, rfl, rfl, _, rfl, t, _, rfl, .inl hS1, _, _, rfl, rfl, _, rfl, ?_⟩
      by_cases hb : i + 1 < ns.length
      · rw [decide_eq_true (show (0 + ((i : Nat) : Int) + 1) < (((iV ns).length : Nat) : Int) by omega)]
        obtain ⟨bb, hbb⟩ := getP hb
        have hb0 := hO.pl bb (List.mem_of_getElem? hbb)
        obtain ⟨m, rfl⟩ := Int.eq_ofNat_of_zero_le hb0.1
        have hle : n ≤ m := by
          have := List.pairwise_iff_getElem.mp hO.up i (i + 1) hi2 hb (by omega)
          rw [List.getElem?_eq_getElem hi2] at ha
          rw [List.getElem?_eq_getElem hb] at hbb
          injection ha with ha
          injection hbb with hbb
          rw [ha, hbb] at this
          omega
        rw [hbb] at hcut
        have hl1 : (cutS z (some ((n : Nat) : Int)) none).length ≤ 200 := Nat.le_trans (cutS_len z _ _) hz
        refine iteT ⟨_, rfl, ?_⟩
        simp only [tNoPart]
        refine ⟨_, rfl, _, rfl, _, _, rfl, rfl, t, _, _, .int ((m : Nat) : Int), rfl, rfl, hS1, ?_, _, rfl, _, rfl, t, _, _, .int ((n : Nat) : Int), rfl, rfl, hS1, by rw [Int.zero_add]; exact atI_map (f := V.int) (atI_nat ha), _, _, rfl, rfl, _, rfl, _, rfl, by omega, ?_⟩
        · have e : (0 : Int) + ((i : Nat) : Int) + 1 = ((i + 1 : Nat) : Int) := by omega
          rw [e]
          exact atI_map (f := V.int) (atI_nat hbb)
        have hl2 : (cutS (cutS z (some ((n : Nat) : Int)) none) none (some ((m : Nat) - (n : Nat) : Int))).length ≤ 200 := Nat.le_trans (cutS_len _ _ _) hl1
        have hy : stripL (cl (cutS (cutS z (some ((n : Nat) : Int)) none) none (some ((m : Nat) - (n : Nat) : Int)))) = stripL (((cl z).drop n).take (m - n)) := by
          have e : ((m : Nat) - (n : Nat) : Int) = ((m - n : Nat) : Int) := by omega
          rw [e, cut_hi, cut_lo]
        have hcut : cl (cutAt z ns i) = stripL (((cl z).drop n).take (m - n)) := hcut
        refine ⟨fun mm σ H' => ∃ u : Str, σ = [some (.str z), some (.ref t), some (.ref D), some (.int (0 + (i : Nat))), some (.str u)] ∧ H1 = H' ∧ mm = u.length ∧ u.length ≤ 200 ∧ (cl u).dropWhile blk = (cl (cutS (cutS z (some ((n : Nat) : Int)) none) none (some ((m : Nat) - (n : Nat) : Int)))).dropWhile blk, ⟨_, _, rfl, rfl, rfl, hl2, rfl⟩, ?_⟩
        rintro mm σ H' ⟨u, rfl, rfl, rfl, hul, hu⟩
        refine ⟨_, rfl, ?_⟩
        simp only [tNoPart]
        refine ⟨1, rfl, u, rfl, by omega, rfl, _, rfl, ?_⟩
        rw [sp_eq, cut01]
        by_cases h1 : (cl u).take 1 = [32]
        · rw [decide_eq_true h1]
          refine iteT ⟨fun σ' H' => ∃ mn, mn < u.length ∧ ∃ u : Str, σ' = [some (.str z), some (.ref t), some (.ref D), some (.int (0 + (i : Nat))), some (.str u)] ∧ H1 = H' ∧ mn = u.length ∧ u.length ≤ 200 ∧ (cl u).dropWhile blk = (cl (cutS (cutS z (some ((n : Nat) : Int)) none) none (some ((m : Nat) - (n : Nat) : Int)))).dropWhile blk, fun _ _ q => q, ⟨_, rfl, 1, rfl, ?_⟩⟩
          simp only [tNoPart]
          obtain ⟨s1, s2⟩ := dw_step h1
          have e1 : (cutS u (some 1) none).length + 1 = u.length := by rw [len_cl, cut1, s2, ← len_cl]
          exact ⟨u, rfl, by omega, (cutS u (some 1) none).length, by omega, _, rfl, rfl, rfl, by omega, by rw [cut1, s1]; exact hu⟩
        rw [decide_eq_false h1]
        rw [dw_halt h1] at hu
        refine iteF ⟨fun mm σ H' => ∃ v : Str, σ = [some (.str z), some (.ref t), some (.ref D), some (.int (0 + (i : Nat))), some (.str v)] ∧ H1 = H' ∧ mm = v.length ∧ v.length ≤ 200 ∧ (cl v).reverse.dropWhile blk = (cl u).reverse.dropWhile blk, ⟨_, _, rfl, rfl, rfl, hul, rfl⟩, ?_⟩
        rintro mm σ H' ⟨v, rfl, rfl, rfl, hvl, hv⟩
        refine ⟨_, rfl, 1, rfl, _, rfl, ?_⟩
        simp only [tNoPart]
        refine ⟨v, rfl, by omega, rfl, _, rfl, ?_⟩
        rw [sp_eq, cut_end]
        by_cases h2 : (cl v).reverse.take 1 = [32]
        · rw [decide_eq_true ((last_rev _).mpr h2)]
          refine iteT ⟨fun σ' H' => ∃ mn, mn < v.length ∧ ∃ x : Str, σ' = [some (.str z), some (.ref t), some (.ref D), some (.int (0 + (i : Nat))), some (.str x)] ∧ H1 = H' ∧ mn = x.length ∧ x.length ≤ 200 ∧ (cl x).reverse.dropWhile blk = (cl u).reverse.dropWhile blk, fun _ _ q => q, ⟨_, rfl, ?_⟩⟩
          simp only [tNoPart]
          obtain ⟨s1, s2⟩ := dw_step h2
          have e1 : (cutS v none (some (-1))).length + 1 = v.length := by
            rw [List.length_reverse, List.length_tail, List.length_reverse] at s2
            rw [len_cl, cut_less, List.length_take, len_cl]
            omega
          exact ⟨1, rfl, _, rfl, v, rfl, by omega, (cutS v none (some (-1))).length, by omega, _, rfl, rfl, rfl, by omega, by rw [cut_less, less_rev, s1]; exact hv⟩
        rw [decide_eq_false (fun q => h2 ((last_rev _).mp q))]
        rw [dw_halt h2] at hv
        have ev : v = cutAt z ns i := by
          refine str_eq ?_
          rw [hcut, ← hy]
          have := congrArg List.reverse hv
          rw [List.reverse_reverse, hu] at this
          exact this
        have hg : (cutR z ns)[i]? = some v := by
          unfold cutR
          rw [List.getElem?_map, List.getElem?_range hi2, ev]
          rfl
        refine iteF ⟨_, rfl, .inl ⟨rfl, _, SqL.of hD⟩, _, rfl, D, _, _, rfl, rfl, hD, ?_, _, _, rfl, ex_new hT x1 nD, ?_⟩
        · rw [List.length_map, List.length_take]
          omega
        · rw [upd_same, List.take_add_one, hg]
          simp [sV]
      · rw [decide_eq_false (show ¬ (0 + ((i : Nat) : Int) + 1) < (((iV ns).length : Nat) : Int) by omega)]
        refine iteF ?_
        rw [List.getElem?_eq_none (by omega)] at hcut
        have hl1 : (cutS z (some ((n : Nat) : Int)) none).length ≤ 200 := Nat.le_trans (cutS_len z _ _) hz
        have hy : stripL (cl (cutS z (some ((n : Nat) : Int)) none)) = stripL ((cl z).drop n) := by rw [cut_lo]
        have hcut : cl (cutAt z ns i) = stripL ((cl z).drop n) := hcut
        refine ⟨fun mm σ H' => ∃ u : Str, σ = [some (.str z), some (.ref t), some (.ref D), some (.int (0 + (i : Nat))), some (.str u)] ∧ H1 = H' ∧ mm = u.length ∧ u.length ≤ 200 ∧ (cl u).dropWhile blk = (cl (cutS z (some ((n : Nat) : Int)) none)).dropWhile blk, ⟨_, _, rfl, rfl, rfl, hl1, rfl⟩, ?_⟩
        rintro mm σ H' ⟨u, rfl, rfl, rfl, hul, hu⟩
        refine ⟨_, rfl, ?_⟩
        simp only [tNoPart]
        refine ⟨1, rfl, u, rfl, by omega, rfl, _, rfl, ?_⟩
        rw [sp_eq, cut01]
        by_cases h1 : (cl u).take 1 = [32]
        · rw [decide_eq_true h1]
          refine iteT ⟨fun σ' H' => ∃ mn, mn < u.length ∧ ∃ u : Str, σ' = [some (.str z), some (.ref t), some (.ref D), some (.int (0 + (i : Nat))), some (.str u)] ∧ H1 = H' ∧ mn = u.length ∧ u.length ≤ 200 ∧ (cl u).dropWhile blk = (cl (cutS z (some ((n : Nat) : Int)) none)).dropWhile blk, fun _ _ q => q, ⟨_, rfl, 1, rfl, ?_⟩⟩
          simp only [tNoPart]
          obtain ⟨s1, s2⟩ := dw_step h1
          have e1 : (cutS u (some 1) none).length + 1 = u.length := by rw [len_cl, cut1, s2, ← len_cl]
          exact ⟨u, rfl, by omega, (cutS u (some 1) none).length, by omega, _, rfl, rfl, rfl, by omega, by rw [cut1, s1]; exact hu⟩
        rw [decide_eq_false h1]
        rw [dw_halt h1] at hu
        refine iteF ⟨fun mm σ H' => ∃ v : Str, σ = [some (.str z), some (.ref t), some (.ref D), some (.int (0 + (i : Nat))), some (.str v)] ∧ H1 = H' ∧ mm = v.length ∧ v.length ≤ 200 ∧ (cl v).reverse.dropWhile blk = (cl u).reverse.dropWhile blk, ⟨_, _, rfl, rfl, rfl, hul, rfl⟩, ?_⟩
        rintro mm σ H' ⟨v, rfl, rfl, rfl, hvl, hv⟩
        refine ⟨_, rfl, 1, rfl, _, rfl, ?_⟩
        simp only [tNoPart]
        refine ⟨v, rfl, by omega, rfl, _, rfl, ?_⟩
        rw [sp_eq, cut_end]
        by_cases h2 : (cl v).reverse.take 1 = [32]
        · rw [decide_eq_true ((last_rev _).mpr h2)]
          refine iteT ⟨fun σ' H' => ∃ mn, mn < v.length ∧ ∃ x : Str, σ' = [some (.str z), some (.ref t), some (.ref D), some (.int (0 + (i : Nat))), some (.str x)] ∧ H1 = H' ∧ mn = x.length ∧ x.length ≤ 200 ∧ (cl x).reverse.dropWhile blk = (cl u).reverse.dropWhile blk, fun _ _ q => q, ⟨_, rfl, ?_⟩⟩
          simp only [tNoPart]
          obtain ⟨s1, s2⟩ := dw_step h2
          have e1 : (cutS v none (some (-1))).length + 1 = v.length := by
            rw [List.length_reverse, List.length_tail, List.length_reverse] at s2
            rw [len_cl, cut_less, List.length_take, len_cl]
            omega
          exact ⟨1, rfl, _, rfl, v, rfl, by omega, (cutS v none (some (-1))).length, by omega, _, rfl, rfl, rfl, by omega, by rw [cut_less, less_rev, s1]; exact hv⟩
        rw [decide_eq_false (fun q => h2 ((last_rev _).mp q))]
        rw [dw_halt h2] at hv
        have ev : v = cutAt z ns i := by
          refine str_eq ?_
          rw [hcut, ← hy]
          have := congrArg List.reverse hv
          rw [List.reverse_reverse, hu] at this
          exact this
        have hg : (cutR z ns)[i]? = some v := by
          unfold cutR
          rw [List.getElem?_map, List.getElem?_range hi2, ev]
          rfl
        refine iteF ⟨_, rfl, .inl ⟨rfl, _, SqL.of hD⟩, _, rfl, D, _, _, rfl, rfl, hD, ?_, _, _, rfl, ex_new hT x1 nD, ?_⟩
        · rw [List.length_map, List.length_take]
          omega
        · rw [upd_same, List.take_add_one, hg]
          simp [sV]
    · rintro σ H1 ⟨c3, c4, rfl, x1, hD⟩
      have el : (cutR z ns).length = ns.length := by unfold cutR; rw [List.length_map, List.length_range]
      rw [List.take_of_length_le (by rw [el]; omega)] at hD
      refine ⟨_, rfl, D, _, rfl, .inl ⟨SqL.of hD, fun r nr => ?_⟩⟩
      exact k r _ (x1.trans (Ex.laid x1.tab nr)) (x1.old _ nr) upd_same
end
end TG

namespace TG
open PySem PySem.Spec PyProof.Rows L2 NdefX GenW Gx Lv
/-- a def that may raise, whose code object is known -/
theorem fun_okTX {P : Program} {w : World} {K : PySem.W.Frag} {mg : Str → Option Value} {base : Heap} {x qual : Str} {st : Stmt} {f c : Addr} {fd : FuncData} {N ps : List Str} {k : Nat} {sp : Sp} (F : Fun K x qual st f fd) (hc : fd.code = .ref c) (S : FnScope N ps (defScope st)) (len : ∀ vs H Q E, sp vs H Q E → vs.length = ps.length)
    (hbody : ∀ (A : Around) (outer : List Env) (s : Shared) (H : Hp) (vs : List V) (Q : VK) (E : XK), Room k (A.deeper (envOfC qual (defScope st) s.heap.objs.size f (.ref c))) → sp vs H Q E →
      ∃ t, PSs (cxOf (L2.CX P w) P w K mg base N qual (defScope st) f (.ref c) A outer s H E) (defBody st) t ∧ t { nx := fun _ H' => Q .non H', rt := Q } (start N vs) H) : FnOk P w K mg base (L2.CX P w) (k + 1) f fd ps sp := by
  obtain ⟨oc, od, kV, doc, pm, an, cdv, ct, osl, rfl, lk, hcd⟩ := F.ex
  have e : cdv = .ref c := hc
  subst e
  exact fn_of lk hcd S len fun A outer s H vs Q E hr hsp => hbody A outer s H vs Q E hr hsp
theorem fnok_or {P : Program} {w : World} {K : PySem.W.Frag} {mg : Str → Option Value} {base : Heap} {CX : CXT} {k : Nat} {f : Addr} {fd : FuncData} {ps : List Str} {sp sp' : Sp} (F : FnOk P w K mg base CX k f fd ps sp) (G : FnOk P w K mg base CX k f fd ps sp') :
    FnOk P w K mg base CX k f fd ps (fun vs H Q E => sp vs H Q E ∨ sp' vs H Q E) := by
  refine ⟨fun vs H Q E h => ?_, fun A outer s H args us vs Q E hr e0 hb r h => ?_⟩
  · rcases h with h | h
    · exact F.len vs H Q E h
    · exact G.len vs H Q E h
  · rcases h with h | h
    · exact F.run A outer s H args us vs Q E hr e0 hb r h
    · exact G.run A outer s H args us vs Q E hr e0 hb r h
section
variable {P : Program} {w : World} {K : PySem.W.Frag} {mg : Str → Option Value} {base : Heap} {cs : List (Addr × Addr)}
/-- x, asked for left ends, is answered by b -/
def EndsAns (K : PySem.W.Frag) (cs : List (Addr × Addr)) (H : Hp) (x : V) (b : Bool) : Prop := ∀ Z : VK, (∀ H2, Ex cs H H2 → Z (.bl b) H2) → spEnds3 K cs [x] H Z (fun _ _ _ => False)
def spEndsY (K : PySem.W.Frag) (cs : List (Addr × Addr)) : Sp := fun vs H Q _ => ∃ (i x : V) (b : Bool), vs = [i, x] ∧ EndsAns K cs H x b ∧ ∀ H2, Ex cs H H2 → Q (.bl b) H2
theorem lok_rbX {q : Str} {c' f g : Addr} {fdg : FuncData} (G : FnOk P w K mg base CX0 6 g fdg ["value"] (spEnds3 K cs)) (kp : PySem.W.keepIn K (.ref g) = true) (bd : Binds K fdg ["value"] []) (mgg : mg "are_left_ends" = some (.ref g)) :
    LOk P w K mg base 7 f ⟨"<lambda>", q, rbL.1, [], rbL.2.2, [], c'⟩ rbL.2.1 ["line", "places"] (spEndsY K cs) := by
  refine lok_of (N := ["line", "places"]) sc_rbL rfl (fun pm ctv us hl => ?_) (fun vs H Q E h => ?_) fun A outer s H vs Q E hr h => ?_
  · match us, hl with
    | [_, _], _ => rfl
  · obtain ⟨i, x, b, rfl, _⟩ := h
    rfl
  · obtain ⟨i, x, b, rfl, hA, k⟩ := h
    refine ⟨_, pe_call G hr (by rfl) mgg kp bd .nil pass0 (pa_cons (pv 1) pa_nil), ?_⟩
    exact ⟨_, rfl, hA Q k⟩
def spBackL (K : PySem.W.Frag) (cs : List (Addr × Addr)) (c p C : Addr) : Sp := fun vs H _ E => ∃ (a : Addr) (t : V) (zs : List Str) (m : Nat) (xs : List V) (ans : Nat → Bool), vs = [.ref a, t] ∧ Tabs cs H ∧ LamX.TabS H p rbQ ∧ SqL K H a (sV zs) ∧ LnOk zs ∧ BadLs K H t zs.length m xs ans ∧
  (∀ (i : Nat) (x : V), i ≤ m → xs[i]? = some x → ∀ H1, Ex ((c, p) :: cs) H H1 → Tabs cs H1 → EndsAns K cs H1 x (ans i)) ∧
  ∀ (d : Addr) (H' : Hp), Ex ((c, p) :: cs) H H' → LamX.TabS H' p rbQ → H d = none → H' d = some (.xd [("line", .int (m : Nat))]) → E (.ref C) (some d) H'
theorem ok_backL {f c p g1 g2 g4 C : Addr} {fd fd1 fd2 fd4 : FuncData} (T : Txt mg) (ne : Apart cs p) (F : Fun K "read_back" "read_back" s_read_back f fd) (hc : fd.code = .ref c) (TB : LamX.TabB base mg c p)
    (G1 : FnOk P w K mg base CX0 6 g1 fd1 ["lines"] (spLines K cs)) (kp1 : PySem.W.keepIn K (.ref g1) = true) (bd1 : Binds K fd1 ["lines"] []) (m1 : mg "check_lines" = some (.ref g1))
    (G2 : FnOk P w K mg base (L2.CX P w) 8 g2 fd2 ["told", "many", "fits"] (spListsX P w K mg base cs 7 C)) (kp2 : PySem.W.keepIn K (.ref g2) = true) (bd2 : Binds K fd2 ["told", "many", "fits"] []) (m2 : mg "check_lists" = some (.ref g2))
    (G4 : FnOk P w K mg base CX0 6 g4 fd4 ["value"] (spEnds3 K cs)) (kp4 : PySem.W.keepIn K (.ref g4) = true) (bd4 : Binds K fd4 ["value"] []) (m4 : mg "are_left_ends" = some (.ref g4)) : FnOk P w K mg base (L2.CX P w) 9 f fd ["lines", "told"] (spBackL K cs c p C) := by
  refine fun_okTX F hc sc_back (fun vs H Q E h => ?_) (fun A outer s H vs Q E hr h => ?_)
  · obtain ⟨a, t, zs, m, xs, ans, rfl, _⟩ := h
    rfl
  · obtain ⟨a, t, zs, m, xs, ans, rfl, hT, hL, hZ, hO, hB, hE, k⟩ := h
    have nd := sc_back.nd
    have hr6 : Room 6 _ := hr.mono (by decide)
    refine ⟨_, pss_cons (ps_expr (pe_call G1 hr6 (by rfl) m1 kp1 bd1 .nil pass0 (pa_cons (pv 0) pa_nil)))
      (pss_cons (ps_expr (pe_callS G2 hr (by rfl) m2 kp2 bd2 (fun σ => passAt (takes_of rfl rfl rfl rfl) σ) (pa_cons (pv 1) (pa_cons (pe_callB call_len_seq (by rfl) T.len PySem.boot_len (pa_cons (pv 0) pa_nil)) (pa_cons (pe_lamV TB rfl rfl (by decide +kernel)) pa_nil)))))
      (pss_one ps_never)), ?_⟩
    have hl := hO.len
    refine ⟨_, rfl, a, zs, rfl, hT, hZ, hO, fun H1 x1 => ?_⟩
    have t1 := tabS_ex x1 ne hL
    have y1 := x1.lift (c := c) ne hL
    refine ⟨_, rfl, _, rfl, a, _, rfl, .inl (x1.sqL hZ), t1, fun fa c' H2 k1 k2 t2 nf hf hcc => ?_⟩
    have y2 := ex_lam (c := c) x1.tab ne t1 k1 k2 t2
    have y12 := y1.trans y2
    obtain ⟨ta, rfl, hta⟩ := hB.lst
    refine ⟨.ref ta, fa, zs.length, m, _, _, _, _, by rw [List.length_map], tabs_less y2.tab, hl, hf, hcc, lok_rbX G4 kp4 bd4 m4, .inr ⟨xs, ans, ⟨hB.le, ⟨ta, rfl, y12.sqL hta⟩, hB.ok, hB.bad⟩, fun i e H3 Z hi he x3 hZ3 => ?_⟩, fun d H3 x3 nd3 hd3 => ?_⟩
    · exact ⟨_, e, ans i, rfl, hE i e hi he H3 (y12.trans (x3.lift ne t2)) x3.tab, hZ3⟩
    · exact k d H3 (y12.trans (x3.lift ne t2)) (tabS_ex x3 ne t2) (y12.old _ nd3) hd3
/-- read_back refuses the lines, or the left ends -/
def spBackA (K : PySem.W.Frag) (cs : List (Addr × Addr)) (c p C : Addr) : Sp := fun vs H Q E => spLinesX2 K cs C vs H Q E ∨ spBackL K cs c p C vs H Q E
end
end TG

namespace TG
open PySem PySem.Spec PyProof.Rows L2 NdefX GenW Gx Lv
/-! ### left ends that can't be -/
section
variable {K : PySem.W.Frag} {cs : List (Addr × Addr)} {H H' : Hp} {b l : Addr}
theorem gw_lst {a : Addr} {xs : List V} (e : LamX.ExtN H H') (h : H a = some (.lst xs)) : H' a = some (.lst xs) := e _ _ h fun ps q => by cases q
theorem gw_tup {a : Addr} {xs : List V} (e : LamX.ExtN H H') (h : H a = some (.tup xs)) : H' a = some (.tup xs) := e _ _ h fun ps q => by cases q
/-- of these one is no place -/
def NotPl (vs : List V) : Prop := ∃ bs : List Bool, bs.all id = false ∧ ∀ (K : PySem.W.Frag) (cs : List (Addr × Addr)) (H : Hp), PlacesV K cs H vs bs
/-- places, but not from 0 on, or not rising -/
def NotEn (ns : List Int) : Prop := PlOk ns ∧ ns.length < 64 ∧ ¬ (ns.head? = some 0 ∧ ns.Pairwise (· ≤ ·))
inductive OddV (b l : Addr) (H : Hp) : V → Prop
  | non : OddV b l H .non
  | str (z : Str) : OddV b l H (.str z)
  | tup (t : Addr) (xs : List V) (h : H t = some (.tup xs)) (n1 : t ≠ b) (n2 : t ≠ l) : OddV b l H (.ref t)
  | pl (a : Addr) (xs : List V) (h : H a = some (.lst xs)) (n1 : a ≠ b) (n2 : a ≠ l) (n : NotPl xs) : OddV b l H (.ref a)
  | en (a : Addr) (ns : List Int) (h : H a = some (.lst (iV ns))) (n1 : a ≠ b) (n2 : a ≠ l) (n : NotEn ns) : OddV b l H (.ref a)
theorem OddV.gw {v : V} (o : OddV b l H v) (x : LamX.ExtN H H') : OddV b l H' v := by
  cases o with
  | non => exact .non
  | str z => exact .str z
  | tup t xs h n1 n2 => exact .tup t xs (gw_tup x h) n1 n2
  | pl a xs h n1 n2 n => exact .pl a xs (gw_lst x h) n1 n2 n
  | en a ns h n1 n2 n => exact .en a ns (gw_lst x h) n1 n2 n
theorem OddV.kb {v : V} (o : OddV b l H v) (x : KB b l H H') : OddV b l H' v := by
  cases o with
  | non => exact .non
  | str z => exact .str z
  | tup t xs h n1 n2 => exact .tup t xs (x _ _ h n1 n2) n1 n2
  | pl a xs h n1 n2 n => exact .pl a xs (x _ _ h n1 n2) n1 n2 n
  | en a ns h n1 n2 n => exact .en a ns (x _ _ h n1 n2) n1 n2 n
theorem OddV.ans {v : V} (o : OddV b l H v) (t : Tabs cs H) : EndsAns K cs H v false := fun Z z => ⟨t, by
  cases o with
  | non => exact .inl ⟨_, _, rfl, .base .non, by decide +kernel, z⟩
  | str s => exact .inl ⟨_, _, rfl, .base (.str s), by decide +kernel, z⟩
  | tup t xs h n1 n2 => exact .inl ⟨_, _, rfl, ty_tup (SqT.of h), by decide +kernel, z⟩
  | pl a xs h n1 n2 n =>
    obtain ⟨bs, hb, hp⟩ := n
    exact .inr (.inl ⟨a, xs, bs, rfl, SqL.of h, hp K cs H, hb, z⟩)
  | en a ns h n1 n2 n =>
    refine .inr (.inr ⟨a, ns, rfl, SqL.of h, n.1, n.2.1, fun c H' e x => ?_⟩)
    cases c with
    | false => exact z H' x
    | true => exact absurd (e.mp rfl) n.2.2⟩
theorem ends_ans {a : Addr} {ns : List Int} (h : H a = some (.lst (iV ns))) (e : EndsOk ns) (t : Tabs cs H) : EndsAns K cs H (.ref a) true := fun Z z =>
  ⟨t, .inr (.inr ⟨a, ns, rfl, SqL.of h, e.pl, by have := e.len; omega, fun c H' q x => by
    have : c = true := q.mpr ⟨e.hd, e.up⟩
    rw [this]
    exact z H' x⟩)⟩
theorem pv_of {xs : List V} {bs : List Bool} (h1 : xs.length = bs.length) (h : ∀ (i : Nat) (v : V) (b : Bool), xs[i]? = some v → bs[i]? = some b → (∃ n : Int, v = .int n ∧ b = (decide (0 ≤ n) && decide (n ≤ 200))) ∨ ((v = .non ∨ ∃ x, v = .bl x) ∧ b = false)) (hb : bs.all id = false) : NotPl xs :=
  ⟨bs, hb, fun K cs H => ⟨h1, fun i v b e1 e2 H' _ => by
    rcases h i v b e1 e2 with q | ⟨rfl | ⟨x, rfl⟩, q⟩
    · exact .inl q
    · exact .inr (.inr ⟨_, .base .non, by decide +kernel, q⟩)
    · exact .inr (.inl ⟨x, rfl, q⟩)⟩⟩
theorem notPl_hi {f : Int} (h : 0 ≤ f) : NotPl [.int 0, .int (201 + f)] := by
  refine pv_of (bs := [true, false]) rfl (fun i v b e1 e2 => ?_) rfl
  match i, e1, e2 with
  | 0, e1, e2 =>
    cases e1
    cases e2
    exact .inl ⟨0, rfl, by decide⟩
  | 1, e1, e2 =>
    cases e1
    cases e2
    exact .inl ⟨_, rfl, by rw [decide_eq_false (show ¬ 201 + f ≤ 200 by omega), Bool.and_false]⟩
theorem notPl_lo {f : Int} (h : 0 ≤ f) : NotPl [.int 0, .int (-1 - f)] := by
  refine pv_of (bs := [true, false]) rfl (fun i v b e1 e2 => ?_) rfl
  match i, e1, e2 with
  | 0, e1, e2 =>
    cases e1
    cases e2
    exact .inl ⟨0, rfl, by decide⟩
  | 1, e1, e2 =>
    cases e1
    cases e2
    exact .inl ⟨_, rfl, by rw [decide_eq_false (show ¬ 0 ≤ -1 - f by omega), Bool.false_and]⟩
theorem notPl_non : NotPl [.int 0, .non] := by
  refine pv_of (bs := [true, false]) rfl (fun i v b e1 e2 => ?_) rfl
  match i, e1, e2 with
  | 0, e1, e2 =>
    cases e1
    cases e2
    exact .inl ⟨0, rfl, by decide⟩
  | 1, e1, e2 =>
    cases e1
    cases e2
    exact .inr ⟨.inl rfl, rfl⟩
theorem notPl_bl {c : Bool} : NotPl [.bl c] := by
  refine pv_of (bs := [false]) rfl (fun i v b e1 e2 => ?_) rfl
  match i, e1, e2 with
  | 0, e1, e2 =>
    cases e1
    cases e2
    exact .inr ⟨.inr ⟨_, rfl⟩, rfl⟩
theorem notEn_by {ns : List Int} (h : (ns.all (fun n => decide (0 ≤ n) && decide (n ≤ 200)) && decide (ns.length < 64) && !(decide (ns.head? = some 0) && decide (ns.Pairwise (· ≤ ·)))) = true) : NotEn ns := by
  rw [Bool.and_eq_true, Bool.and_eq_true, List.all_eq_true, decide_eq_true_eq] at h
  obtain ⟨⟨h1, h2⟩, h3⟩ := h
  refine ⟨fun n hn => ?_, h2, fun q => ?_⟩
  · have := h1 n hn
    rw [Bool.and_eq_true, decide_eq_true_eq, decide_eq_true_eq] at this
    exact this
  · rw [decide_eq_true q.1, decide_eq_true q.2] at h3
    cases h3
/-- lines and left ends that are refused with n -/
def BadB (K : PySem.W.Frag) (cs : List (Addr × Addr)) (H : Hp) (a : Addr) (t : V) (n : Nat) : Prop :=
  (∃ xs : List V, ∀ H1, LamX.ExtN H H1 → SqL K H1 a xs ∧ BadLn K H1 xs n ∧ Firm K cs H1 xs) ∨
  ∃ (zs : List Str) (xs : List V) (ans : Nat → Bool), LnOk zs ∧ ∀ H1, LamX.ExtN H H1 → SqL K H1 a (sV zs) ∧ BadLs K H1 t zs.length n xs ans ∧ (Tabs cs H1 → ∀ (i : Nat) (x : V), i ≤ n → xs[i]? = some x → EndsAns K cs H1 x (ans i))
theorem BadB.gw {a : Addr} {t : V} {n : Nat} (o : BadB K cs H a t n) (x : LamX.ExtN H H') : BadB K cs H' a t n := by
  rcases o with ⟨xs, h⟩ | ⟨zs, xs, ans, hz, h⟩
  · exact .inl ⟨xs, fun H1 y => h H1 (x.trans y)⟩
  · exact .inr ⟨zs, xs, ans, hz, fun H1 y => h H1 (x.trans y)⟩
/-- the left ends of lines, one list each -/
structure LeftsAt (b l : Addr) (H : Hp) (t : Addr) (es : List Addr) (nss : List (List Int)) : Prop where
  lst : H t = some (.lst (es.map V.ref))
  tb : t ≠ b
  tl : t ≠ l
  len : es.length = nss.length
  at_ : ∀ (i : Nat) (e : Addr) (ns : List Int), es[i]? = some e → nss[i]? = some ns → H e = some (.lst (iV ns)) ∧ e ≠ b ∧ e ≠ l ∧ EndsOk ns ∧ 1 ≤ ns.length
theorem LeftsAt.kb {t : Addr} {es : List Addr} {nss : List (List Int)} (o : LeftsAt b l H t es nss) (x : KB b l H H') : LeftsAt b l H' t es nss :=
  ⟨x _ _ o.lst o.tb o.tl, o.tb, o.tl, o.len, fun i e ns h1 h2 => by
    obtain ⟨p, n1, n2, q⟩ := o.at_ i e ns h1 h2
    exact ⟨x _ _ p n1 n2, n1, n2, q⟩⟩
theorem LeftsAt.gw {t : Addr} {es : List Addr} {nss : List (List Int)} (o : LeftsAt b l H t es nss) (x : LamX.ExtN H H') : LeftsAt b l H' t es nss :=
  ⟨gw_lst x o.lst, o.tb, o.tl, o.len, fun i e ns h1 h2 => by
    obtain ⟨p, n1, n2, q⟩ := o.at_ i e ns h1 h2
    exact ⟨gw_lst x p, n1, n2, q⟩⟩
end
end TG

namespace TG
open PySem PySem.Spec PyProof.Rows L2 NdefX GenW Gx Lv
/-! ### what stands beside the box -/
section
variable {b l : Addr} {H0 H H' : Hp}
def Hd (b l : Addr) (H : Hp) (c : Addr) (o : HO) : Prop := H c = some o ∧ c ≠ b ∧ c ≠ l
theorem Hd.kb {c : Addr} {o : HO} (h : Hd b l H c o) (x : KB b l H H') : Hd b l H' c o := ⟨x _ _ h.1 h.2.1 h.2.2, h.2⟩
structure Stp (b l : Addr) (H0 H : Hp) : Prop where
  box : BoxAt H b l
  kb : KB b l H0 H
theorem Stp.new {p : Addr} {o : HO} (s : Stp b l H0 H) (n : H p = none) : Stp b l H0 (upd H p o) ∧ Hd b l (upd H p o) p o ∧ KB b l H (upd H p o) := by
  obtain ⟨n1, n2⟩ := new_ne s.box n
  exact ⟨⟨box_new s.box n, s.kb.trans (kb_new n)⟩, ⟨upd_same, n1, n2⟩, kb_new n⟩
theorem Stp.go {H' : Hp} (s : Stp b l H0 H) (hB : BoxAt H' b l) (x : KB b l H H') : Stp b l H0 H' := ⟨hB, s.kb.trans x⟩
end
section
variable {P : Program} {w : World} {K : PySem.W.Frag} {mg : Str → Option Value} {base : Heap} {cs : List (Addr × Addr)}
def spBadD (K : PySem.W.Frag) (cs : List (Addr × Addr)) : Sp := fun vs H Q _ => ∃ (b l D t : Addr) (es : List Addr) (zs : List Str) (nss : List (List Int)), vs = [.ref b, .ref D, .ref t] ∧ BoxAt H b l ∧ Hd b l H D (.lst (sV zs)) ∧ LnOk zs ∧ 1 ≤ zs.length ∧ LeftsAt b l H t es nss ∧ nss.length = zs.length ∧
  ∀ (q a u : Addr) (n : Nat) (H' : Hp), BoxAt H' b l → KB b l H H' → H' q = some (.tup [.ref a, .ref u, .int n]) → BadB K cs H' a (.ref u) n → n ≤ 30 → Q (.ref q) H'
theorem cut_parts (xs : List V) (n : Nat) : cutV xs none (some ((n : Nat) : Int)) = xs.take n ∧ cutV xs (some (((n : Nat) : Int) + 1)) none = xs.drop (n + 1) := ⟨cut_up, cut_from xs (n + 1)⟩
theorem odd_more {b l : Addr} {H H' : Hp} {vs : List V} {u : V} (h : ∀ v ∈ vs, OddV b l H v) (x : KB b l H H') (o : OddV b l H' u) : ∀ v ∈ vs ++ [u], OddV b l H' v := fun v hv => by
  rcases List.mem_append.mp hv with e | e
  · exact (h v e).kb x
  · rw [List.mem_singleton.mp e]; exact o
theorem rep_mem {xs : List V} {m : Nat} {v : V} (h : v ∈ (List.replicate m xs).flatten) : v ∈ xs := by
  obtain ⟨ys, h1, h2⟩ := List.mem_flatten.mp h
  rw [(List.mem_replicate.mp h1).2] at h2
  exact h2
theorem repl_len {xs : List V} {m : Nat} : (List.replicate m xs).flatten.length = m * xs.length := by
  induction m with
  | zero => simp
  | succ n ih => rw [List.replicate_succ, List.flatten_cons, List.length_append, ih, Nat.succ_mul, Nat.add_comm]
abbrev nmBad : List Str := ["_law_box", "_law_lines", "_law_told_here", "_law_at", "_law_way", "_law_odd", "_law_many", "_law_far"]
theorem sc_bad : FnScope nmBad ["_law_box", "_law_lines", "_law_told_here"] (defScope s_bad) := ⟨rfl, rfl, rfl, by decide +kernel, rfl, by decide +kernel, by decide +kernel⟩
theorem ok_bad {f g : Addr} {fd fdg : FuncData} (T : Txt mg) (F : Fun K "_law_bad" "_law_bad" s_bad f fd)
    (G : FnOk P w K mg base CX0 1 g fdg ["_law_box", "_law_many"] spTakeW) (kp : PySem.W.keepIn K (.ref g) = true) (bd : Binds K fdg ["_law_box", "_law_many"] []) (mgg : mg "_law_take" = some (.ref g)) : FnOk P w K mg base CX0 2 f fd ["_law_box", "_law_lines", "_law_told_here"] (spBadD K cs) := by
  refine F.ok sc_bad (fun vs H Q E h => ?_) (fun cdv A outer s H vs Q E hr h => ?_)
  · obtain ⟨b, l, D, t, es, zs, nss, rfl, _⟩ := h
    rfl
  · obtain ⟨b, l, D, t, es, zs, nss, rfl, hB, hD, hZ, hz1, hL, hnl, k⟩ := h
    have nd := sc_bad.nd
    have szl : (2000 : Nat) < sizeLine := by decide
    refine ⟨_, pss_cons (ps_par (i := 3) (j := 4) rfl nd rfl rfl (by decide) rfl rfl (pa_cons (pe_call G hr (by rfl) mgg kp bd .nil pass0 (pa_cons (pv 0) (pa_cons (pe_callB call_len_seq (by rfl) T.len PySem.boot_len (pa_cons (pv 1) pa_nil)) pa_nil))) (pa_cons (pe_call G hr (by rfl) mgg kp bd .nil pass0 (pa_cons (pv 0) (pa_cons pe_int pa_nil))) pa_nil)) (by rfl))
      (pss_cons (ps_if (pt_cmpR op_eq (pv 4) pe_int (nomark _))
        (pss_cons (ps_set (i := 5) nd rfl (.inl rfl) (pe_ix ix_list (pe_lst (pa_cons pe_non (pa_cons pe_str (pa_cons pe_str (pa_cons (pe_tup (pa_cons pe_str pa_nil)) (pa_cons (pe_op op_repW pe_str pe_int) (pa_cons pe_int pa_nil))))))) (pe_call G hr (by rfl) mgg kp bd .nil pass0 (pa_cons (pv 0) (pa_cons pe_int pa_nil))) (fun _ _ => rfl)))
        (pss_one (ps_ret (pe_tup (pa_cons (pe_op op_cat (pe_op op_cat (pe_slice sl_list (pv 1) po_none (po_some (pv 3))) (pe_lst (pa_cons (pv 5) pa_nil))) (pe_slice sl_list (pv 1) (po_some (pe_op op_add (pv 3) pe_int)) po_none)) (pa_cons (pe_slice sl_list (pv 2) po_none (po_some (pe_call G hr (by rfl) mgg kp bd .nil pass0 (pa_cons (pv 0) (pa_cons (pe_op op_add (pe_callB call_len_seq (by rfl) T.len PySem.boot_len (pa_cons (pv 2) pa_nil)) pe_int) pa_nil))))) (pa_cons (pv 3) pa_nil))))))) pss_nil)
      (pss_cons (ps_if (pt_cmpR op_eq (pv 4) pe_int (nomark _))
        (pss_cons (ps_set (i := 6) nd rfl (.inl rfl) (pe_op op_add pe_int (pe_call G hr (by rfl) mgg kp bd .nil pass0 (pa_cons (pv 0) (pa_cons pe_int pa_nil)))))
        (pss_one (ps_ret (pe_tup (pa_cons (pe_slice sl_list (pe_op op_rep (pv 1) pe_int) po_none (po_some (pv 6))) (pa_cons (pe_slice sl_list (pe_op op_rep (pv 2) pe_int) po_none (po_some (pv 6))) (pa_cons pe_int pa_nil))))))) pss_nil)
      (pss_cons (ps_if (pt_cmpR op_eq (pv 4) pe_int (nomark _))
        (pss_one (ps_ret (pe_tup (pa_cons (pv 1) (pa_cons (pe_slice sl_list (pv 2) po_none (po_some (pv 3))) (pa_cons (pv 3) pa_nil)))))) pss_nil)
      (pss_cons (ps_if (pt_cmpR op_eq (pv 4) pe_int (nomark _))
        (pss_one (ps_ret (pe_tup (pa_cons (pv 1) (pa_cons (pe_op op_cat (pv 2) (pe_lst (pa_cons (pe_lst (pa_cons pe_int pa_nil)) pa_nil))) (pa_cons (pe_callB call_len_seq (by rfl) T.len PySem.boot_len (pa_cons (pv 1) pa_nil)) pa_nil)))))) pss_nil)
      (pss_cons (ps_set (i := 7) nd rfl (.inl rfl) (pe_call G hr (by rfl) mgg kp bd .nil pass0 (pa_cons (pv 0) (pa_cons (pe_op op_pow pe_int pe_int) pa_nil))))
      (pss_cons (ps_set (i := 5) nd rfl (.inl rfl) (pe_lst (pa_cons (pe_lst pa_nil) (pa_cons (pe_lst (pa_cons pe_int pa_nil)) (pa_cons (pe_lst (pa_cons pe_int (pa_cons (pe_op op_add pe_int (pv 7)) pa_nil))) (pa_cons (pe_lst (pa_cons pe_int (pa_cons pe_int (pa_cons pe_int pa_nil))))
          (pa_cons (pe_lst (pa_cons pe_int (pa_cons (pe_op op_sub (pe_un un_neg pe_int) (pv 7)) pa_nil))) (pa_cons (pe_lst (pa_cons pe_int (pa_cons pe_non pa_nil))) (pa_cons pe_non (pa_cons (pe_tup (pa_cons pe_int (pa_cons pe_int pa_nil))) (pa_cons (pe_lst (pa_cons pe_bl pa_nil)) (pa_cons (pe_lst (pa_cons pe_int (pa_cons pe_int (pa_cons pe_int (pa_cons pe_int pa_nil))))) (pa_cons pe_str pa_nil)))))))))))))
      (pss_one (ps_ret (pe_tup (pa_cons (pv 1) (pa_cons (pe_op op_cat (pe_op op_cat (pe_op op_cat (pe_slice sl_list (pv 2) po_none (po_some (pv 3))) (pe_lst (pa_cons (pe_ix ix_list (pv 5) (pe_call G hr (by rfl) mgg kp bd .nil pass0 (pa_cons (pv 0) (pa_cons pe_int pa_nil))) (fun _ _ => rfl)) pa_nil))) (pe_slice sl_list (pv 2) (po_some (pe_op op_add (pv 3) pe_int)) po_none))
          (pe_op op_rep (pe_lst (pa_cons (pe_lst (pa_cons pe_int pa_nil)) pa_nil)) (pe_call G hr (by rfl) mgg kp bd .nil pass0 (pa_cons (pv 0) (pa_cons pe_int pa_nil))))) (pa_cons (pv 3) pa_nil)))))))))))), ?_⟩
    have hle := hZ.len
    have s0 : Stp b l H H := ⟨hB, fun c o h _ _ => h⟩
    refine ⟨_, rfl, _, rfl, D, _, rfl, .inl (SqL.of hD.1), b, l, _, rfl, hB, by rw [List.length_map]; omega, by rw [List.length_map]; omega, fun at_ H1 a0 a1 hB1 x1 => ⟨_, rfl, b, l, 6, rfl, hB1, by decide, by decide, fun way H2 w0 w1 hB2 x2 => ⟨_, _, rfl, ?_⟩⟩⟩
    obtain ⟨n, rfl⟩ := Int.eq_ofNat_of_zero_le a0
    rw [List.length_map] at a1
    have hn : n < zs.length := by omega
    have s3 := (s0.go hB1 x1).go hB2 x2
    have hD3 := hD.kb s3.kb
    have hL3 := hL.kb s3.kb
    have hnl2 : es.length = zs.length := by rw [hL.len, hnl]
    clear hD hL hB hB1 hB2 x1 x2 s0 a0
    generalize H2 = H3 at *
    refine ⟨_, rfl, rfl, _, rfl, ?_⟩
    by_cases h0 : way = 0
    · rw [decide_eq_true (show V.int way = V.int 0 by rw [h0])]
      refine iteT ⟨by show 1 ≤ sizeLine; decide, fun tt ntt => ⟨_, 101, rfl, rfl, by decide, by decide, by decide +kernel, by decide +kernel, by show 6 ≤ sizeLine; decide, fun ol nol => ⟨_, rfl, b, l, 6, rfl, ?_⟩⟩⟩
      obtain ⟨s4, ht4, x4⟩ := s3.new (o := .tup [.str "a"]) ntt
      generalize upd H3 tt (.tup [.str "a"]) = H4 at s4 ht4 x4 nol ⊢
      obtain ⟨s5, ho5, x5⟩ := s4.new (o := .lst [V.non, .str "a\nb", .str "\t", .ref tt, .str (repW "ab" (101 : Int).toNat), .int 5]) nol
      generalize upd H4 ol (.lst [V.non, .str "a\nb", .str "\t", .ref tt, .str (repW "ab" (101 : Int).toNat), .int 5]) = H5 at s5 ho5 x5 ⊢
      refine ⟨s5.box, by decide, by decide, fun r H6 r0 r1 hB6 x6 => ?_⟩
      have s6 := s5.go hB6 x6
      have y6 := (x4.trans x5).trans x6
      have hD6 := hD3.kb y6
      have hL6 := hL3.kb y6
      have ht6 := (ht4.kb x5).kb x6
      have ho6 := ho5.kb x6
      clear ht4 ho5 x4 x5 x6 y6 hD3 hL3 s3 s4 s5 hB6
      obtain ⟨v, hv, ev⟩ := pick (xs := [V.non, .str "a\nb", .str "\t", .ref tt, .str (repW "ab" (101 : Int).toNat), .int 5]) (i := r) r0 r1
      refine ⟨ol, _, _, v, rfl, rfl, SqL.of ho6.1, ev, ?_⟩
      have odd : (∀ H', H' tt = some (.tup [.str "a"]) → NoText K H' v) ∨ ∃ z, v = .str z ∧ z.length ≤ 1000 ∧ textB z 200 = false := by
        simp only [List.mem_cons, List.not_mem_nil, or_false] at hv
        rcases hv with rfl | rfl | rfl | rfl | rfl | rfl
        · exact .inl fun H' _ => ⟨_, .base .non, by decide +kernel⟩
        · exact .inr ⟨_, rfl, by decide +kernel, by decide +kernel⟩
        · exact .inr ⟨_, rfl, by decide +kernel, by decide +kernel⟩
        · exact .inl fun H' x => ⟨_, .base (.tup x), by decide +kernel⟩
        · have e : (repW "ab" (101 : Int).toNat).length = 202 := by rw [repW_len]; decide +kernel
          refine .inr ⟨_, rfl, by omega, ?_⟩
          unfold textB
          rw [e]
          rfl
        · exact .inl fun H' _ => ⟨_, .base (.int 5), by decide +kernel⟩
      refine ⟨_, rfl, ?_⟩
      simp only [tNoPart]
      refine ⟨_, rfl, _, rfl, D, _, rfl, SqL.of hD6.1, fun q1 n1 => ?_⟩
      have c1 : cutV (sV zs) none (some ((n : Nat) : Int)) = sV (zs.take n) := by rw [cut_up, sV, sV, List.map_take]
      have c2 : cutV (sV zs) (some (((n : Nat) : Int) + 1)) none = sV (zs.drop (n + 1)) := by rw [(cut_parts _ _).2, sV, sV, List.map_drop]
      have lt1 : (sV (zs.take n)).length = n := by rw [List.length_map, List.length_take]; omega
      have lt2 : (sV (zs.drop (n + 1))).length = zs.length - (n + 1) := by rw [List.length_map, List.length_drop]
      rw [c1]
      obtain ⟨s7, h7, x7⟩ := s6.new (o := .lst (sV (zs.take n))) n1
      generalize upd H6 q1 (.lst (sV (zs.take n))) = H7 at s7 h7 x7 ⊢
      refine ⟨_, rfl, by show 1 ≤ sizeLine; decide, fun q2 n2 => ?_⟩
      obtain ⟨s8, h8, x8⟩ := s7.new (o := .lst [v]) n2
      generalize upd H7 q2 (.lst [v]) = H8 at s8 h8 x8 ⊢
      refine ⟨q1, q2, _, _, rfl, rfl, (h7.kb x8).1, h8.1, by rw [List.length_singleton]; omega, fun q3 n3 => ?_⟩
      obtain ⟨s9, h9, x9⟩ := s8.new (o := .lst (sV (zs.take n) ++ [v])) n3
      generalize upd H8 q3 (.lst (sV (zs.take n) ++ [v])) = H9 at s9 h9 x9 ⊢
      have y9 := (x7.trans x8).trans x9
      refine ⟨_, rfl, _, rfl, _, _, rfl, rfl, _, rfl, ?_⟩
      simp only [tNoPart]
      refine ⟨D, _, rfl, SqL.of (hD6.kb y9).1, fun q4 n4 => ?_⟩
      rw [c2]
      obtain ⟨s10, h10, x10⟩ := s9.new (o := .lst (sV (zs.drop (n + 1)))) n4
      generalize upd H9 q4 (.lst (sV (zs.drop (n + 1)))) = H10 at s10 h10 x10 ⊢
      refine ⟨q3, q4, _, _, rfl, rfl, (h9.kb x10).1, h10.1, by rw [List.length_append, List.length_singleton]; omega, fun q5 n5 => ?_⟩
      obtain ⟨s11, h11, x11⟩ := s10.new (o := .lst (sV (zs.take n) ++ [v] ++ sV (zs.drop (n + 1)))) n5
      generalize upd H10 q5 (.lst (sV (zs.take n) ++ [v] ++ sV (zs.drop (n + 1)))) = H11 at s11 h11 x11 ⊢
      have y11 := (y9.trans x10).trans x11
      have hL11 := hL6.kb y11
      have ht11 := ht6.kb y11
      refine ⟨_, rfl, ?_⟩
      simp only [tNoPart]
      refine ⟨_, rfl, _, rfl, t, _, rfl, .inl (SqL.of hL11.lst), _, _, rfl, rfl, b, l, _, rfl, s11.box, by rw [List.length_map]; omega, by rw [List.length_map]; omega, fun u H12 u0 u1 hB12 x12 => ?_⟩
      have s12 := s11.go hB12 x12
      refine ⟨_, rfl, t, _, rfl, SqL.of (hL11.kb x12).lst, fun q6 n6 => ?_⟩
      obtain ⟨s13, h13, x13⟩ := s12.new (o := .lst (cutV (es.map V.ref) none (some u))) n6
      generalize upd H12 q6 (.lst (cutV (es.map V.ref) none (some u))) = H13 at s13 h13 x13 ⊢
      refine ⟨_, rfl, by show 3 ≤ sizeLine; decide, fun q7 n7 => ?_⟩
      obtain ⟨s14, h14, x14⟩ := s13.new (o := .tup [.ref q5, .ref q6, .int (n : Nat)]) n7
      have y14 := (x12.trans x13).trans x14
      refine k q7 q5 q6 n _ s14.box s14.kb h14.1 (.inl ⟨sV (zs.take n) ++ [v] ++ sV (zs.drop (n + 1)), fun H15 x15 => ?_⟩) (by omega)
      have ht15 := gw_tup x15 (ht11.kb y14).1
      refine ⟨SqL.of (gw_lst x15 (h11.kb y14).1), ⟨by rw [List.length_append, List.length_append, lt1, List.length_singleton]; omega, by omega, fun i hi => ?_, .inr ⟨v, ?_, ?_⟩⟩, fun u hu => ?_⟩
      · have hi2 : i < zs.length := by omega
        have hm := List.getElem_mem hi2
        refine ⟨zs[i], ?_, Nat.le_trans (hZ.ln _ hm) (by decide), sg_text (hZ.ln _ hm) (hZ.sg _ hm)⟩
        rw [List.append_assoc, List.getElem?_append_left (by omega), List.getElem?_map, List.getElem?_take, if_pos hi, List.getElem?_eq_getElem hi2]
        rfl
      · rw [List.append_assoc, List.getElem?_append_right (by omega), lt1, Nat.sub_self]
        rfl
      · rcases odd with h | h
        · exact .inl (h _ ht15)
        · exact .inr h
      · simp only [List.mem_append, List.mem_singleton] at hu
        rcases hu with (hu | hu) | hu
        · obtain ⟨z, _, rfl⟩ := List.mem_map.mp hu
          exact .inl ⟨z, rfl⟩
        · subst hu
          rcases odd with h | ⟨z, h, _⟩
          · exact .inr fun H2 x2 => h H2 (x2.tup ht15)
          · exact .inl ⟨z, h⟩
        · obtain ⟨z, _, rfl⟩ := List.mem_map.mp hu
          exact .inl ⟨z, rfl⟩
    rw [decide_eq_false (fun z : V.int way = V.int 0 => h0 (by injection z))]
    refine iteF ⟨_, rfl, rfl, _, rfl, ?_⟩
    by_cases h1 : way = 1
    · rw [decide_eq_true (show V.int way = V.int 1 by rw [h1])]
      refine iteT ⟨_, rfl, b, l, 4, rfl, s3.box, by decide, by decide, fun r H4 r0 r1 hB4 x4 => ⟨31, r, rfl, rfl, ?_⟩⟩
      have s4 := s3.go hB4 x4
      have hD4 := hD3.kb x4
      have hL4 := hL3.kb x4
      have lz : (sV zs).length = zs.length := List.length_map ..
      refine ⟨_, rfl, D, 35, _, rfl, rfl, hD4.1, by decide, by decide, by rw [lz]; show zs.length * 35 ≤ _; omega, fun q1 n1 => ?_⟩
      obtain ⟨s5, h5, x5⟩ := s4.new (o := .lst (List.replicate (35 : Int).toNat (sV zs)).flatten) n1
      generalize upd H4 q1 (.lst (List.replicate (35 : Int).toNat (sV zs)).flatten) = H5 at s5 h5 x5 ⊢
      simp only [tNoPart]
      refine ⟨_, rfl, _, rfl, q1, _, rfl, SqL.of h5.1, fun q2 n2 => ?_⟩
      have em : (31 + r) = (((31 + r).toNat : Nat) : Int) := by omega
      obtain ⟨m, hm⟩ : ∃ m : Nat, m = (31 + r).toNat := ⟨_, rfl⟩
      rw [em, ← hm]
      obtain ⟨s6, h6, x6⟩ := s5.new (o := .lst (cutV (List.replicate (35 : Int).toNat (sV zs)).flatten none (some ((m : Nat) : Int)))) n2
      generalize hxs : cutV (List.replicate (35 : Int).toNat (sV zs)).flatten none (some ((m : Nat) : Int)) = xs at s6 h6 x6 ⊢
      generalize upd H5 q2 (.lst xs) = H6 at s6 h6 x6 ⊢
      refine ⟨_, rfl, t, 35, _, rfl, rfl, (hL4.kb (x5.trans x6)).lst, by decide, by decide, by rw [List.length_map]; show es.length * 35 ≤ _; omega, fun q3 n3 => ?_⟩
      obtain ⟨s7, h7, x7⟩ := s6.new (o := .lst (List.replicate (35 : Int).toNat (es.map V.ref)).flatten) n3
      generalize upd H6 q3 (.lst (List.replicate (35 : Int).toNat (es.map V.ref)).flatten) = H7 at s7 h7 x7 ⊢
      simp only [tNoPart]
      refine ⟨_, rfl, _, rfl, q3, _, rfl, SqL.of h7.1, fun q4 n4 => ?_⟩
      obtain ⟨s8, h8, x8⟩ := s7.new (o := .lst (cutV (List.replicate (35 : Int).toNat (es.map V.ref)).flatten none (some ((m : Nat) : Int)))) n4
      generalize upd H7 q4 (.lst (cutV (List.replicate (35 : Int).toNat (es.map V.ref)).flatten none (some ((m : Nat) : Int)))) = H8 at s8 h8 x8 ⊢
      refine ⟨by show 3 ≤ sizeLine; decide, fun q5 n5 => ?_⟩
      obtain ⟨s9, h9, x9⟩ := s8.new (o := .tup [.ref q2, .ref q4, .int ((30 : Nat) : Int)]) n5
      have y9 := (x7.trans x8).trans x9
      have lx : 31 ≤ xs.length := by
        rw [← hxs, cut_up, List.length_take, repl_len, lz]
        show 31 ≤ min m (35 * zs.length)
        omega
      have mx : ∀ v ∈ xs, v ∈ sV zs := fun v hv => by
        rw [← hxs, cut_up] at hv
        exact rep_mem (List.mem_of_mem_take hv)
      refine k q5 q2 q4 30 _ s9.box s9.kb h9.1 (.inl ⟨xs, fun H10 x10 => ⟨SqL.of (gw_lst x10 (h6.kb y9).1), ⟨by omega, by decide, fun i hi => ?_, .inl rfl⟩, fun v hv => ?_⟩⟩) (by decide)
      · obtain ⟨z, hz, e⟩ := List.mem_map.mp (mx _ (List.getElem_mem (show i < xs.length by omega)))
        exact ⟨z, by rw [List.getElem?_eq_getElem (show i < xs.length by omega), e], Nat.le_trans (hZ.ln z hz) (by decide), sg_text (hZ.ln z hz) (hZ.sg z hz)⟩
      · obtain ⟨z, _, e⟩ := List.mem_map.mp (mx v hv)
        exact .inl ⟨z, e.symm⟩
    rw [decide_eq_false (fun z : V.int way = V.int 1 => h1 (by injection z))]
    refine iteF ⟨_, rfl, rfl, _, rfl, ?_⟩
    have okE : ∀ {H' : Hp}, LeftsAt b l H' t es nss → Tabs cs H' → ∀ (i : Nat) (x : V), (es.map V.ref)[i]? = some x → EndsAns K cs H' x true := fun {H'} hL' hT i x hx => by
      obtain ⟨e, he, rfl⟩ := get_map hx
      obtain ⟨ns, hns⟩ := getP (xs := nss) (i := i) (by have := (List.getElem?_eq_some_iff.mp he).1; have := hL'.len; omega)
      obtain ⟨e1, _, _, e2, _⟩ := hL'.at_ i e ns he hns
      exact ends_ans e1 e2 hT
    by_cases h2 : way = 2
    · rw [decide_eq_true (show V.int way = V.int 2 by rw [h2])]
      refine iteT ⟨_, rfl, _, rfl, ?_⟩
      simp only [tNoPart]
      refine ⟨_, rfl, _, rfl, t, _, rfl, SqL.of hL3.lst, fun q1 n1 => ?_⟩
      rw [cut_up]
      obtain ⟨s4, h4, x4⟩ := s3.new (o := .lst ((es.map V.ref).take n)) n1
      generalize upd H3 q1 (.lst ((es.map V.ref).take n)) = H4 at s4 h4 x4 ⊢
      refine ⟨_, rfl, by show 3 ≤ sizeLine; decide, fun q2 n2 => ?_⟩
      obtain ⟨s5, h5, x5⟩ := s4.new (o := .tup [.ref D, .ref q1, .int (n : Nat)]) n2
      have hD5 := hD3.kb (x4.trans x5)
      have hL5 := hL3.kb (x4.trans x5)
      have ll : ((es.map V.ref).take n).length = n := by rw [List.length_take, List.length_map]; omega
      refine k q2 D q1 n _ s5.box s5.kb h5.1 (.inr ⟨zs, (es.map V.ref).take n, fun _ => true, hZ, fun H6 x6 => ⟨SqL.of (gw_lst x6 hD5.1), ⟨by omega, ⟨q1, rfl, SqL.of (gw_lst x6 (h4.kb x5).1)⟩, fun i hi => ⟨by omega, rfl⟩, .inl ⟨hn, .inl (by omega)⟩⟩, fun hT i x hi hx => ?_⟩⟩) (by omega)
      have hi2 : i < n := by have := (List.getElem?_eq_some_iff.mp hx).1; omega
      rw [List.getElem?_take, if_pos hi2] at hx
      exact okE (hL5.gw x6) hT i x hx
    rw [decide_eq_false (fun z : V.int way = V.int 2 => h2 (by injection z))]
    refine iteF ⟨_, rfl, rfl, _, rfl, ?_⟩
    by_cases h3 : way = 3
    · rw [decide_eq_true (show V.int way = V.int 3 by rw [h3])]
      refine iteT ⟨_, rfl, _, rfl, by show 1 ≤ sizeLine; decide, fun q1 n1 => ⟨by show 1 ≤ sizeLine; decide, fun q2 n2 => ?_⟩⟩
      obtain ⟨s4, h4, x4⟩ := s3.new (o := .lst [.int 0]) n1
      generalize upd H3 q1 (.lst [.int 0]) = H4 at s4 h4 x4 n2 ⊢
      obtain ⟨s5, h5, x5⟩ := s4.new (o := .lst [.ref q1]) n2
      generalize upd H4 q2 (.lst [.ref q1]) = H5 at s5 h5 x5 ⊢
      have hL5 := hL3.kb (x4.trans x5)
      refine ⟨t, q2, _, _, rfl, rfl, hL5.lst, h5.1, by rw [List.length_map, List.length_singleton]; omega, fun q3 n3 => ?_⟩
      obtain ⟨s6, h6, x6⟩ := s5.new (o := .lst (es.map V.ref ++ [.ref q1])) n3
      generalize upd H5 q3 (.lst (es.map V.ref ++ [.ref q1])) = H6 at s6 h6 x6 ⊢
      have y6 := (x4.trans x5).trans x6
      refine ⟨_, rfl, D, _, rfl, .inl (SqL.of (hD3.kb y6).1), by show 3 ≤ sizeLine; decide, fun q4 n4 => ?_⟩
      have lz : (sV zs).length = zs.length := List.length_map ..
      rw [lz]
      obtain ⟨s7, h7, x7⟩ := s6.new (o := .tup [.ref D, .ref q3, .int (zs.length : Nat)]) n4
      have ll : (es.map V.ref ++ [V.ref q1]).length = zs.length + 1 := by rw [List.length_append, List.length_map, List.length_singleton]; omega
      refine k q4 D q3 zs.length _ s7.box s7.kb h7.1 (.inr ⟨zs, es.map V.ref ++ [.ref q1], fun _ => true, hZ, fun H8 x8 => ⟨SqL.of (gw_lst x8 (hD3.kb (y6.trans x7)).1), ⟨Nat.le_refl _, ⟨q3, rfl, SqL.of (gw_lst x8 (h6.kb x7).1)⟩, fun i hi => ⟨by omega, rfl⟩, .inr ⟨rfl, by omega⟩⟩, fun hT i x hi hx => ?_⟩⟩) hle
      by_cases hi2 : i < zs.length
      · rw [List.getElem?_append_left (by rw [List.length_map]; omega)] at hx
        exact okE ((hL5.kb (x6.trans x7)).gw x8) hT i x hx
      · have ei : i = zs.length := by omega
        subst ei
        rw [List.getElem?_append_right (by rw [List.length_map]; omega), List.length_map, hnl2, Nat.sub_self] at hx
        cases hx
        exact ends_ans (ns := [0]) (gw_lst x8 (h4.kb ((x5.trans x6).trans x7)).1) ⟨fun n hn => by rw [List.mem_singleton.mp hn]; decide, rfl, by decide, List.pairwise_singleton ..⟩ hT
    rw [decide_eq_false (fun z : V.int way = V.int 3 => h3 (by injection z))]
    refine iteF ⟨_, rfl, 10, 18, rfl, rfl, ⟨by decide, by decide, by decide⟩, b, l, _, rfl, s3.box, by decide, by decide, fun far H4 f0 f1 hB4 x4 => ?_⟩
    have s4 := s3.go hB4 x4
    have hD4 := hD3.kb x4
    have hL4 := hL3.kb x4
    clear s3 hB4 x4 hD3 hL3 h0 h1 h2 h3 f1
    have z0 : KB b l H4 H4 := fun c o h _ _ => h
    have v0 : ∀ v ∈ ([] : List V), OddV b l H4 v := fun v hv => by cases hv
    refine ⟨small0, fun a0 m0 => ?_⟩
    obtain ⟨s5, o0, x0⟩ := s4.new (o := .lst []) m0
    generalize upd H4 a0 (.lst []) = H5 at s5 o0 x0 ⊢
    have v1 := odd_more v0 x0 (OddV.en _ [] o0.1 o0.2.1 o0.2.2 (notEn_by (by decide)))
    have z1 := z0.trans x0
    refine ⟨by show 1 ≤ sizeLine; decide, fun a1 m1 => ?_⟩
    obtain ⟨s6, o1, x1⟩ := s5.new (o := .lst [.int 1]) m1
    generalize upd H5 a1 (.lst [.int 1]) = H6 at s6 o1 x1 ⊢
    have v2 := odd_more v1 x1 (OddV.en _ [1] o1.1 o1.2.1 o1.2.2 (notEn_by (by decide)))
    have z2 := z1.trans x1
    refine ⟨_, rfl, _, _, rfl, rfl, by show 2 ≤ sizeLine; decide, fun a2 m2 => ?_⟩
    obtain ⟨s7, o2, x2⟩ := s6.new (o := .lst [.int 0, .int (201 + far)]) m2
    generalize upd H6 a2 (.lst [.int 0, .int (201 + far)]) = H7 at s7 o2 x2 ⊢
    have v3 := odd_more v2 x2 (OddV.pl _ _ o2.1 o2.2.1 o2.2.2 (notPl_hi f0))
    have z3 := z2.trans x2
    refine ⟨by show 3 ≤ sizeLine; decide, fun a3 m3 => ?_⟩
    obtain ⟨s8, o3, x3⟩ := s7.new (o := .lst [.int 0, .int 5, .int 4]) m3
    generalize upd H7 a3 (.lst [.int 0, .int 5, .int 4]) = H8 at s8 o3 x3 ⊢
    have v4 := odd_more v3 x3 (OddV.en _ [0, 5, 4] o3.1 o3.2.1 o3.2.2 (notEn_by (by decide)))
    have z4 := z3.trans x3
    refine ⟨1, rfl, _, rfl, _, _, rfl, rfl, by show 2 ≤ sizeLine; decide, fun a4 m4 => ?_⟩
    obtain ⟨s9, o4, x4⟩ := s8.new (o := .lst [.int 0, .int (-1 - far)]) m4
    generalize upd H8 a4 (.lst [.int 0, .int (-1 - far)]) = H9 at s9 o4 x4 ⊢
    have v5 := odd_more v4 x4 (OddV.pl _ _ o4.1 o4.2.1 o4.2.2 (notPl_lo f0))
    have z5 := z4.trans x4
    refine ⟨by show 2 ≤ sizeLine; decide, fun a5 m5 => ?_⟩
    obtain ⟨s10, o5, x5⟩ := s9.new (o := .lst [.int 0, .non]) m5
    generalize upd H9 a5 (.lst [.int 0, .non]) = H10 at s10 o5 x5 ⊢
    have v6 := odd_more v5 x5 (OddV.pl _ _ o5.1 o5.2.1 o5.2.2 notPl_non)
    have z6 := z5.trans x5
    have v7 := odd_more v6 (fun c o h _ _ => h) (OddV.non)
    refine ⟨by show 2 ≤ sizeLine; decide, fun a7 m7 => ?_⟩
    obtain ⟨s11, o7, x7⟩ := s10.new (o := .tup [.int 0, .int 3]) m7
    generalize upd H10 a7 (.tup [.int 0, .int 3]) = H11 at s11 o7 x7 ⊢
    have v8 := odd_more v7 x7 (OddV.tup _ _ o7.1 o7.2.1 o7.2.2)
    have z7 := z6.trans x7
    refine ⟨by show 1 ≤ sizeLine; decide, fun a8 m8 => ?_⟩
    obtain ⟨s12, o8, x8⟩ := s11.new (o := .lst [.bl true]) m8
    generalize upd H11 a8 (.lst [.bl true]) = H12 at s12 o8 x8 ⊢
    have v9 := odd_more v8 x8 (OddV.pl _ _ o8.1 o8.2.1 o8.2.2 notPl_bl)
    have z8 := z7.trans x8
    refine ⟨by show 4 ≤ sizeLine; decide, fun a9 m9 => ?_⟩
    obtain ⟨s13, o9, x9⟩ := s12.new (o := .lst [.int 0, .int 3, .int 3, .int 2]) m9
    generalize upd H12 a9 (.lst [.int 0, .int 3, .int 3, .int 2]) = H13 at s13 o9 x9 ⊢
    have v10 := odd_more v9 x9 (OddV.en _ [0, 3, 3, 2] o9.1 o9.2.1 o9.2.2 (notEn_by (by decide)))
    have z9 := z8.trans x9
    have v11 := odd_more v10 (fun c o h _ _ => h) (OddV.str "0")
    refine ⟨by show 11 ≤ sizeLine; decide, fun ol nol => ?_⟩
    obtain ⟨s20, ho, x20⟩ := s13.new (o := .lst [V.ref a0, .ref a1, .ref a2, .ref a3, .ref a4, .ref a5, .non, .ref a7, .ref a8, .ref a9, .str "0"]) nol
    generalize upd H13 ol (.lst [V.ref a0, .ref a1, .ref a2, .ref a3, .ref a4, .ref a5, .non, .ref a7, .ref a8, .ref a9, .str "0"]) = H20 at s20 ho x20 ⊢
    have ov : ∀ v ∈ ([V.ref a0, .ref a1, .ref a2, .ref a3, .ref a4, .ref a5, .non, .ref a7, .ref a8, .ref a9, .str "0"] : List V), OddV b l H20 v := fun v hv => ((v11 v hv).kb x20)
    have hD20 := hD4.kb (z9.trans x20)
    have hL20 := hL4.kb (z9.trans x20)
    refine ⟨_, rfl, _, rfl, ?_⟩
    simp only [tNoPart]
    refine ⟨_, rfl, _, rfl, t, _, rfl, SqL.of hL20.lst, fun q1 n1 => ?_⟩
    rw [cut_up]
    obtain ⟨s21, h21, x21⟩ := s20.new (o := .lst ((es.map V.ref).take n)) n1
    generalize upd H20 q1 (.lst ((es.map V.ref).take n)) = H21 at s21 h21 x21 ⊢
    refine ⟨_, rfl, _, rfl, b, l, 11, rfl, s21.box, by decide, by decide, fun r H22 r0 r1 hB22 x22 => ?_⟩
    have s22 := s21.go hB22 x22
    obtain ⟨v, hv, ev⟩ := pick (xs := [V.ref a0, .ref a1, .ref a2, .ref a3, .ref a4, .ref a5, .non, .ref a7, .ref a8, .ref a9, .str "0"]) (i := r) r0 r1
    refine ⟨ol, _, _, v, rfl, rfl, SqL.of (ho.kb (x21.trans x22)).1, ev, by show 1 ≤ sizeLine; decide, fun q2 n2 => ?_⟩
    have hv := ov v hv
    clear ev
    obtain ⟨s23, h23, x23⟩ := s22.new (o := .lst [v]) n2
    generalize upd H22 q2 (.lst [v]) = H23 at s23 h23 x23 ⊢
    refine ⟨q1, q2, _, _, rfl, rfl, (h21.kb (x22.trans x23)).1, h23.1, by rw [List.length_take, List.length_map, List.length_singleton]; omega, fun q3 n3 => ?_⟩
    obtain ⟨s24, h24, x24⟩ := s23.new (o := .lst ((es.map V.ref).take n ++ [v])) n3
    generalize upd H23 q3 (.lst ((es.map V.ref).take n ++ [v])) = H24 at s24 h24 x24 ⊢
    have y24 := ((x21.trans x22).trans x23).trans x24
    refine ⟨_, rfl, _, rfl, _, _, rfl, rfl, _, rfl, ?_⟩
    simp only [tNoPart]
    refine ⟨t, _, rfl, SqL.of (hL20.kb y24).lst, fun q4 n4 => ?_⟩
    rw [(cut_parts _ _).2]
    obtain ⟨s25, h25, x25⟩ := s24.new (o := .lst ((es.map V.ref).drop (n + 1))) n4
    generalize upd H24 q4 (.lst ((es.map V.ref).drop (n + 1))) = H25 at s25 h25 x25 ⊢
    refine ⟨q3, q4, _, _, rfl, rfl, (h24.kb x25).1, h25.1, by rw [List.length_append, List.length_take, List.length_drop, List.length_map, List.length_singleton]; omega, fun q5 n5 => ?_⟩
    obtain ⟨s26, h26, x26⟩ := s25.new (o := .lst ((es.map V.ref).take n ++ [v] ++ (es.map V.ref).drop (n + 1))) n5
    generalize upd H25 q5 (.lst ((es.map V.ref).take n ++ [v] ++ (es.map V.ref).drop (n + 1))) = H26 at s26 h26 x26 ⊢
    refine ⟨by show 1 ≤ sizeLine; decide, fun q6 n6 => ?_⟩
    obtain ⟨s27, h27, x27⟩ := s26.new (o := .lst [.int 9]) n6
    generalize upd H26 q6 (.lst [.int 9]) = H27 at s27 h27 x27 ⊢
    refine ⟨by show 1 ≤ sizeLine; decide, fun q7 n7 => ?_⟩
    obtain ⟨s28, h28, x28⟩ := s27.new (o := .lst [.ref q6]) n7
    generalize upd H27 q7 (.lst [.ref q6]) = H28 at s28 h28 x28 ⊢
    refine ⟨_, rfl, b, l, 2, rfl, s28.box, by decide, by decide, fun r2 H29 u0 u1 hB29 x29 => ?_⟩
    have s29 := s28.go hB29 x29
    refine ⟨q7, r2, _, rfl, rfl, (h28.kb x29).1, by omega, by omega, by rw [List.length_singleton]; omega, fun q8 n8 => ?_⟩
    obtain ⟨s30, h30, x30⟩ := s29.new (o := .lst (List.replicate r2.toNat [V.ref q6]).flatten) n8
    have lf : ((List.replicate r2.toNat [V.ref q6]).flatten).length ≤ 1 := by rw [repl_len, List.length_singleton]; omega
    generalize (List.replicate r2.toNat [V.ref q6]).flatten = fl at h30 s30 x30 lf ⊢
    generalize upd H29 q8 (.lst fl) = H30 at s30 h30 x30 ⊢
    have y30 := ((x27.trans x28).trans x29).trans x30
    refine ⟨q5, q8, _, _, rfl, rfl, (h26.kb y30).1, h30.1, by rw [List.length_append, List.length_append, List.length_take, List.length_drop, List.length_map, List.length_singleton]; omega, fun q9 n9 => ?_⟩
    obtain ⟨s31, h31, x31⟩ := s30.new (o := .lst ((es.map V.ref).take n ++ [v] ++ (es.map V.ref).drop (n + 1) ++ fl)) n9
    generalize upd H30 q9 (.lst ((es.map V.ref).take n ++ [v] ++ (es.map V.ref).drop (n + 1) ++ fl)) = H31 at s31 h31 x31 ⊢
    refine ⟨_, rfl, by show 3 ≤ sizeLine; decide, fun q10 n10 => ?_⟩
    obtain ⟨s32, h32, x32⟩ := s31.new (o := .tup [.ref D, .ref q9, .int (n : Nat)]) n10
    have yy : KB b l H20 (upd H31 q10 (.tup [.ref D, .ref q9, .int (n : Nat)])) := ((((y24.trans x25).trans x26).trans y30).trans x31).trans x32
    have lt : ((es.map V.ref).take n).length = n := by rw [List.length_take, List.length_map]; omega
    refine k q10 D q9 n _ s32.box s32.kb h32.1 (.inr ⟨zs, (es.map V.ref).take n ++ [v] ++ (es.map V.ref).drop (n + 1) ++ fl, fun i => decide (i < n), hZ, fun H33 x33 => ⟨SqL.of (gw_lst x33 (hD20.kb yy).1), ⟨by omega, ⟨q9, rfl, SqL.of (gw_lst x33 (h31.kb x32).1)⟩, fun i hi => ⟨?_, decide_eq_true hi⟩, .inl ⟨hn, .inr ⟨?_, decide_eq_false (Nat.lt_irrefl n)⟩⟩⟩, fun hT i x hi hx => ?_⟩⟩) (by omega)
    · rw [List.length_append, List.length_append, List.length_append, lt]
      omega
    · rw [List.length_append, List.length_append, List.length_append, lt, List.length_singleton]
      omega
    · by_cases hi2 : i < n
      · rw [List.append_assoc, List.append_assoc, List.getElem?_append_left (by omega), List.getElem?_take, if_pos hi2] at hx
        show EndsAns K cs H33 x (decide (i < n))
        rw [decide_eq_true hi2]
        exact okE ((hL20.kb yy).gw x33) hT i x hx
      · have ei : i = n := by omega
        subst ei
        rw [List.append_assoc, List.append_assoc, List.getElem?_append_right (by omega), lt, Nat.sub_self] at hx
        cases hx
        show EndsAns K cs H33 v (decide (i < i))
        rw [decide_eq_false (Nat.lt_irrefl i)]
        exact ((hv.kb yy).gw x33).ans hT
end
end TG

namespace TG
open PySem PySem.Spec PyProof.Rows L2 NdefX GenW Gx Lv
/-! ### the law's lambda -/
abbrev lawL : LamT := lamIf (stAt (forBody (stAt (defBody s_law) 1)) 6)
abbrev lawQ : Str := ("law" : Str) ++ ".<locals>." ++ "<lambda>"
theorem sc_lb : NScope ["_law_some", "_law_ends"] [] ["_law_some", "_law_ends"] lawL.2.2 := nscope_by (by decide +kernel)
section
variable {P : Program} {w : World} {K : PySem.W.Frag} {mg : Str → Option Value} {base : Heap} {cs : List (Addr × Addr)}
/-- a lambdas' table stays, where all but another one stays -/
theorem tabS_k1 {H H' : Hp} {p p2 : Addr} {q q2 : Str} (t : LamX.TabS H p q) (t2 : LamX.TabS H p2 q2) (k1 : ∀ b o, H b = some o → b ≠ p2 → H' b = some o) (n : p ≠ p2) : LamX.TabS H' p q := by
  obtain ⟨ps, h1, h2, h3⟩ := t
  obtain ⟨ps2, g1, _⟩ := t2
  refine ⟨ps, k1 _ _ h1 n, h2, fun pos cv hc => ?_⟩
  obtain ⟨c, e1, e2⟩ := h3 pos cv hc
  refine ⟨c, e1, k1 _ _ e2 fun z => ?_⟩
  rw [z, g1] at e2
  injection e2 with e2
  exact LamX.codeO_ne _ e2.symm
def spLamB (K : PySem.W.Frag) (cs : List (Addr × Addr)) (c p C : Addr) (F : NF) : Sp := fun vs H _ E => vs = [] ∧ ∃ (a : Addr) (t : V) (n : Nat) (cl : List (Addr × Obj)), Caught F ["_law_some", "_law_ends"] [some (.ref a), some t] cl H ∧
  Tabs cs (delC H cl) ∧ LamX.TabS (delC H cl) p rbQ ∧ BadB K cs (delC H cl) a t n ∧
  ∀ (d : Addr) (H' : Hp), Ex ((c, p) :: cs) (delC H cl) H' → LamX.TabS H' p rbQ → delC H cl d = none → H' d = some (.xd [("line", .int (n : Nat))]) → (∀ c o, cl.lookup c = some o → H' c = none) → E (.ref C) (some d) (addC H' cl)
theorem lok_lb {q : Str} {c' f g C c p : Addr} {fdg : FuncData} {lc : List (Str × Addr)} (ne : Apart cs p) (G : FnOk P w K mg base (L2.CX P w) 9 g fdg ["lines", "told"] (spBackA K cs c p C)) (kp : PySem.W.keepIn K (.ref g) = true) (bd : Binds K fdg ["lines", "told"] []) (mgg : mg "read_back" = some (.ref g)) :
    LOkX P w K mg base 10 f ⟨"<lambda>", q, lawL.1, [], lawL.2.2, lc, c'⟩ lawL.2.1 (spLamB K cs c p C ⟨"<lambda>", q, lawL.1, [], lawL.2.2, lc, c'⟩) := by
  refine lokx_of (N := ["_law_some", "_law_ends"]) (fr := ["_law_some", "_law_ends"]) sc_lb (fun pm ctv => rfl) fun A outer s H Q E hr h => ?_
  obtain ⟨_, a, t, n, cl, hC, hT, hL, hB, k⟩ := h
  refine ⟨[some (.ref a), some t], cl, _, hC, pe_callS G hr (by rfl) mgg kp bd (fun σ => passAt (takes_of rfl rfl rfl rfl) σ) (pa_cons (pv 0) (pa_cons (pv 1) pa_nil)), ?_⟩
  generalize delC H cl = H0 at hT hL hB k ⊢
  refine ⟨_, rfl, _, rfl, ?_⟩
  rcases hB with ⟨xs, h⟩ | ⟨zs, xs, ans, hz, h⟩
  · obtain ⟨e1, e2, e3⟩ := h H0 (LamX.ExtN.refl H0)
    exact .inl ⟨a, t, rfl, a, xs, n, rfl, hT, e1, e2, e3.stays, fun d H' x nd hd => k d H' (x.lift ne hL) (tabS_ex x ne hL) nd hd⟩
  · obtain ⟨e1, e2, _⟩ := h H0 (LamX.ExtN.refl H0)
    exact .inr ⟨a, t, zs, n, xs, ans, rfl, hT, hL, e1, hz, e2, fun i x hi hx H1 x1 t1 => (h H1 x1.ext).2.2 t1 i x hi hx, fun d H' x tS nd hd => k d H' x tS nd hd⟩
/-- _law_all of a list of that lambda -/
theorem all_lamB {cells : List (Str × Addr)} {N : List Str} {σ : L2.St} {cl : List (Addr × Obj)} {H : Hp} {q dd f c' g a c p : Addr} {t : V} {lc : List (Str × Addr)} {n : Nat} {fdg : FuncData} {Q : VK} {E : XK} {qn : Str}
    (ne : Apart cs p) (G : FnOk P w K mg base (L2.CX P w) 9 g fdg ["lines", "told"] (spBackA K cs c p (He.ga K "BadLines"))) (kp : PySem.W.keepIn K (.ref g) = true) (bd : Binds K fdg ["lines", "told"] []) (mgg : mg "read_back" = some (.ref g))
    (T : ToldC cells N ["_law_some", "_law_ends"] σ cl) (un : ∀ c o, cl.lookup c = some o → H c = none) (hF : lc = cloFrom cells lawL.2.2.names []) (hN : N[11]? = some ("_law_some" : Str)) (hN2 : N[10]? = some ("_law_ends" : Str)) (hσ : σ[11]? = some (some (.ref a))) (hσ2 : σ[10]? = some (some t))
    (hT : Tabs cs H) (hL : LamX.TabS H p rbQ) (hq : H q = some (.lst [.ref f])) (hdd : H dd = some (.tup [.str "BadLines", .int (n : Nat)])) (hf : H f = some (FnL f ⟨"<lambda>", qn, lawL.1, [], lawL.2.2, lc, c'⟩ lawL.2.1)) (hc : H c' = some (LamX.CodeO c' qn))
    (hB : BadB K cs H a t n) (k : ∀ H2, Ex ((c, p) :: cs) H (delC H2 cl) → LamX.TabS (delC H2 cl) p rbQ → Q (.bl true) H2) :
    spAll P w K mg base cs 10 [.ref q, .ref dd] (addC H cl) Q E := by
  refine ⟨q, dd, f, _, _, _, 5, n, rfl, tabs_add un hT, add_at un hq, add_at un hf, add_at un hc, lok_lb (C := He.ga K "BadLines") ne G kp bd mgg, fun D Z E2 nD hE => ?_⟩
  obtain ⟨r0, nD0⟩ := add_none nD
  have e0 : delC (upd (addC H cl) D (.lst [])) cl = upd H D (.lst []) := del_upd_add un r0
  have x0 := Ex.laid (o := .lst []) hT nD0
  have l0 := hL.ext (same_new (o := .lst []) nD0)
  refine ⟨rfl, a, t, n, cl, caught_of T hF (fun y hy => sc_lb.free (y, .free) hy rfl) (fun y hy => PySem.mem_of_lookup (sc_lb.frk y hy)) (fun y hy => hy) rfl (told_upd r0) (fun i y v h1 h2 => ?_), ?_⟩
  · match i, h1, h2 with
    | 0, h1, h2 =>
      cases h1
      cases h2
      exact ⟨11, hN, hσ⟩
    | 1, h1, h2 =>
      cases h1
      cases h2
      exact ⟨10, hN2, hσ2⟩
    | i + 2, h1, _ => simp at h1
  rw [e0]
  refine ⟨x0.tab, l0, hB.gw x0.ext, fun d H' x1 l1 nd hd hcl => ?_⟩
  have y := (x0.lift (c := c) ne hL).trans x1
  refine hE _ _ _ ⟨by decide, rfl, fun _ => ⟨d, rfl, add_at hcl hd⟩, fun z => absurd z (by decide)⟩ (tabs_add hcl (tabs_less x1.tab)) (add_at hcl (x1.lst upd_same)) (add_at hcl (y.lst hq)) (add_at hcl (y.tup hdd)) fun H2 x2 => ?_
  have x3 := ex_del hcl (told_ex x2) x2
  exact k _ (y.trans (x3.lift ne l1)) (tabS_ex x3 ne l1)
/-! ### left ends of all lines -/
structure LefAt (b l : Addr) (H : Hp) (D : Addr) (i : Nat) (H' : Hp) : Prop where
  box : BoxAt H' b l
  keep : KB b l H H'
  nD : H D = none
  lef : ∃ (es : List Addr) (nss : List (List Int)), es.length = i ∧ LeftsAt b l H' D es nss
theorem LefAt.start {b l : Addr} {H H1 : Hp} {D : Addr} (hB : BoxAt H1 b l) (x : KB b l H H1) (n : H1 D = none) : LefAt b l H D 0 (upd H1 D (.lst [])) := by
  obtain ⟨d1, d2⟩ := new_ne hB n
  have nD : H D = none := by
    cases e : H D with
    | none => rfl
    | some o => rw [x D o e d1 d2] at n; cases n
  exact ⟨box_new hB n, kb_upd x nD, nD, [], [], rfl, ⟨upd_same, d1, d2, rfl, fun i e ns h => by cases h⟩⟩
theorem LefAt.more {b l : Addr} {H H1 H2 : Hp} {D r : Addr} {i : Nat} {ns : List Int} (o : LefAt b l H D i H1) (he : EndsOk ns) (hl : 1 ≤ ns.length) (hB : BoxAt H2 b l) (x : KB b l H1 H2) (nr : H1 r = none) (rb : r ≠ b) (rl : r ≠ l) (hr : H2 r = some (.lst (iV ns))) :
    ∃ acc, H2 D = some (.lst acc) ∧ acc.length = i ∧ LefAt b l H D (i + 1) (upd H2 D (.lst (acc ++ [.ref r]))) := by
  obtain ⟨es, nss, h1, h2⟩ := o.lef
  have h3 := h2.kb x
  have nDr : D ≠ r := fun e => by rw [← e, h2.lst] at nr; cases nr
  refine ⟨_, h3.lst, by rw [List.length_map, h1], box_upd hB h2.tb h2.tl, kb_upd (o.keep.trans x) o.nD, o.nD, es ++ [r], nss ++ [ns], by rw [List.length_append, h1]; rfl, ⟨by rw [upd_same]; simp, h2.tb, h2.tl, by rw [List.length_append, List.length_append, h2.len]; rfl, fun j e m g1 g2 => ?_⟩⟩
  by_cases hj : j < es.length
  · rw [List.getElem?_append_left hj] at g1
    rw [List.getElem?_append_left (by rw [← h2.len]; exact hj)] at g2
    obtain ⟨q1, q2, q3, q4, q5⟩ := h3.at_ j e m g1 g2
    refine ⟨?_, q2, q3, q4, q5⟩
    rw [upd_ne (fun z => ?_)]
    · exact q1
    · rw [z, h3.lst] at q1
      injection q1 with q1
      injection q1 with q1
      cases es with
      | nil => simp at hj
      | cons e0 es =>
        cases m with
        | nil => simp at q5
        | cons m0 m => cases q1
  · have hl2 := (List.getElem?_eq_some_iff.mp g1).1
    rw [List.length_append, List.length_singleton] at hl2
    have ej : j = es.length := by omega
    subst ej
    rw [List.getElem?_append_right (Nat.le_refl _), Nat.sub_self] at g1
    rw [h2.len, List.getElem?_append_right (Nat.le_refl _), Nat.sub_self] at g2
    cases g1
    cases g2
    exact ⟨by rw [upd_ne nDr.symm]; exact hr, rb, rl, he, hl⟩
/-! ### what is handed in, compared -/
abbrev nD (nss : List (List Int)) : PyData := .list (nss.map iD)
theorem can_iDs : ∀ nss : List (List Int), PyData.canLayAll0 (nss.map iD) = true
  | [] => rfl
  | ns :: r => by
    rw [List.map_cons]
    simp only [PyData.canLayAll0, PyData.canLay0, canAll_ints, can_iDs r, Bool.and_self]
theorem dep_iDs : ∀ nss : List (List Int), PyData.depthAll (nss.map iD) ≤ 1
  | [] => Nat.zero_le _
  | ns :: r => by
    rw [List.map_cons]
    have := dep_iDs r
    simp only [PyData.depthAll, PyData.depth, depthAll_ints]
    omega
abbrev hD (zs : List Str) (nss : List (List Int)) : PyData := .tuple [zD zs, nD nss]
theorem shaped_hD {zs : List Str} (h : LnOk zs) (nss : List (List Int)) : SeqAt.shaped (hD zs nss) = true ∧ PyData.eqv (hD zs nss) (hD zs nss) = true := by
  have hc : PyData.canLay0 (hD zs nss) = true := by
    simp only [PyData.canLay0, PyData.canLayAll0, can_iDs, Bool.and_true]
    exact canAll_strs h.sg
  refine ⟨?_, SeqAt.eqv_refl _ hc⟩
  unfold SeqAt.shaped
  rw [hc]
  have := dep_iDs nss
  simp only [Bool.true_and, PyData.depth, PyData.depthAll, depthAll_strs]
  exact decide_eq_true (by omega)
theorem dp_ends {H : Hp} : ∀ {es : List Addr} {nss : List (List Int)}, es.length = nss.length → (∀ (i : Nat) (e : Addr) (ns : List Int), es[i]? = some e → nss[i]? = some ns → H e = some (.lst (iV ns))) → DpAll K H (es.map V.ref) (nss.map iD)
  | [], [], _, _ => .nil
  | [], _ :: _, h, _ => by cases h
  | _ :: _, [], h, _ => by cases h
  | e :: es, ns :: nss, h, k => .cons (.lst (SqL.of (k 0 e ns rfl rfl)) (dp_ints ns)) (dp_ends (by simpa using h) fun i e ns h1 h2 => k (i + 1) e ns (by simpa using h1) (by simpa using h2))
theorem cut_len {z : Str} {ns : List Int} : (cutR z ns).length = ns.length := by
  unfold cutR
  rw [List.length_map, List.length_range]
end
end TG

namespace TG
open PySem PySem.Spec PyProof.Rows L2 NdefX GenW Gx Lv
section
variable {P : Program} {w : World} {K : PySem.W.Frag} {mg : Str → Option Value} {base : Heap} {cs : List (Addr × Addr)}
theorem tabS_updL {H : Hp} {p r : Addr} {q : Str} {xs : List V} {o : HO} (t : LamX.TabS H p q) (h : H r = some (.lst xs)) : LamX.TabS (upd H r o) p q := by
  obtain ⟨ps, h1, h2, h3⟩ := t
  refine ⟨ps, by rw [upd_ne (fun z => by rw [z, h] at h1; cases h1)]; exact h1, h2, fun pos cv hc => ?_⟩
  obtain ⟨c, e1, e2⟩ := h3 pos cv hc
  refine ⟨c, e1, by rw [upd_ne (fun z => by rw [z, h] at e2; cases e2)]; exact e2⟩
def rLof (K : PySem.W.Frag) : List V → Hp → VK → Prop := fun xs H Q => ∃ p ys, xs = [.ref p] ∧ (SqL K H p ys ∨ SqT K H p ys) ∧ ∀ l, H l = none → Q (.ref l) (upd H l (.lst ys))
def spLaw (K : PySem.W.Frag) (cs : List (Addr × Addr)) (p p2 : Addr) : Sp := fun vs H Q _ => ∃ (a : Addr) (ns : List Int), vs = [.ref a] ∧ Tabs cs H ∧ LamX.TabS H p rbQ ∧ LamX.TabS H p2 lawQ ∧ SqL K H a (ns.map V.int) ∧ ns.length ≤ 63 ∧ ∀ H', Q (.bl true) H'
abbrev nmLaw : List Str := ["_law_script", "_law_turn", "_law_lines", "_law_told_here", "_law_due", "_law_handed", "_law_again", "_law_found", "_law_at", "_law_box", "_law_ends", "_law_some", "_law_k", "_law_line_here", "_law_lefts_here"]
theorem sc_law : FnScope nmLaw ["_law_script"] (defScope s_law) := ⟨rfl, rfl, rfl, by decide +kernel, rfl, by decide +kernel, by decide +kernel⟩
theorem key_lb : ∀ y ∈ lawL.2.2.names, y.2 = .free → (defScope s_law).names.lookup y.1 = some .cell := by decide +kernel
theorem key_cb : ∀ y ∈ (["_law_some", "_law_ends"] : List Str), (defScope s_law).names.lookup y = some .cell := by decide +kernel
theorem ok_law {f c p c1 p1 g1 g2 g3 g4 g5 g6 g7 g8 g9 : Addr} {fd fd1 fd2 fd3 fd4 fd5 fd6 fd7 fd8 fd9 : FuncData} (T : Txt mg) (hz : mg "zip" = none) (ne1 : Apart cs p1) (ne0 : Apart cs p) (n01 : p1 ≠ p) (F : Fun K "law" "law" s_law f fd) (hcode : fd.code = .ref c) (TB : LamX.TabB base mg c p)
    (G1 : FnOk P w K mg base CX0 1 g1 fd1 ["_law_script"] (spBegun K)) (k1 : PySem.W.keepIn K (.ref g1) = true) (b1 : Binds K fd1 ["_law_script"] []) (m1 : mg "_law_begun" = some (.ref g1))
    (G2 : FnOk P w K mg base CX0 1 g2 fd2 ["_law_box", "_law_many"] spTake) (k2 : PySem.W.keepIn K (.ref g2) = true) (b2 : Binds K fd2 ["_law_box", "_law_many"] []) (m2 : mg "_law_take" = some (.ref g2))
    (G3 : FnOk P w K mg base CX0 3 g3 fd3 ["_law_box"] spLineD) (k3 : PySem.W.keepIn K (.ref g3) = true) (b3 : Binds K fd3 ["_law_box"] []) (m3 : mg "_law_line" = some (.ref g3))
    (G4 : FnOk P w K mg base CX0 2 g4 fd4 ["_law_box", "_law_line_here"] spLeftsD) (k4 : PySem.W.keepIn K (.ref g4) = true) (b4 : Binds K fd4 ["_law_box", "_law_line_here"] []) (m4 : mg "_law_lefts" = some (.ref g4))
    (G5 : FnOk P w K mg base CX0 1 g5 fd5 ["_law_line_here", "_law_lefts_here"] (spCutL K cs)) (k5 : PySem.W.keepIn K (.ref g5) = true) (b5 : Binds K fd5 ["_law_line_here", "_law_lefts_here"] []) (m5 : mg "_law_cut" = some (.ref g5))
    (G6 : FnOk P w K mg base CX0 5 g6 fd6 ["_law_found", "_law_due"] (spAlike K 4)) (k6 : PySem.W.keepIn K (.ref g6) = true) (b6 : Binds K fd6 ["_law_found", "_law_due"] []) (m6 : mg "_law_alike" = some (.ref g6))
    (G7 : FnOk P w K mg base CX0 9 g7 fd7 ["lines", "told"] (spBack K cs c1 p1)) (G7l : FnOk P w K mg base (L2.CX P w) 9 g7 fd7 ["lines", "told"] (spBackL K cs c1 p1 (He.ga K "BadLines"))) (G7x : FnOk P w K mg base (L2.CX P w) 7 g7 fd7 ["lines", "told"] (spLinesX2 K cs (He.ga K "BadLines"))) (k7 : PySem.W.keepIn K (.ref g7) = true) (b7 : Binds K fd7 ["lines", "told"] []) (m7 : mg "read_back" = some (.ref g7))
    (G8 : FnOk P w K mg base CX0 2 g8 fd8 ["_law_box", "_law_lines", "_law_told_here"] (spBadD K cs)) (k8 : PySem.W.keepIn K (.ref g8) = true) (b8 : Binds K fd8 ["_law_box", "_law_lines", "_law_told_here"] []) (m8 : mg "_law_bad" = some (.ref g8))
    (G9 : FnOk P w K mg base CX0 12 g9 fd9 ["_law_works", "_law_due"] (spAll P w K mg base cs 10)) (k9 : PySem.W.keepIn K (.ref g9) = true) (b9 : Binds K fd9 ["_law_works", "_law_due"] []) (m9 : mg "_law_all" = some (.ref g9)) :
    FnOk P w K mg base CX0 13 f fd ["_law_script"] (spLaw K cs p1 p) := by
  have G7b : FnOk P w K mg base (L2.CX P w) 9 g7 fd7 ["lines", "told"] (spBackA K cs c1 p1 (He.ga K "BadLines")) := fnok_or (G7x.mono (by decide)) G7l
  refine fun_okT F hcode sc_law (fun vs H Q E h => ?_) (fun A outer s H vs Q E hr h => ?_)
  · obtain ⟨a, ns, rfl, _⟩ := h
    rfl
  · obtain ⟨a, ns, rfl, hT, hP, hL, hS, hl, k⟩ := h
    have nd := sc_law.nd
    have hu := hr.units
    have r1 : Room 1 _ := hr.mono (by decide)
    have r2 : Room 2 _ := hr.mono (by decide)
    have r3 : Room 3 _ := hr.mono (by decide)
    have r5 : Room 5 _ := hr.mono (by decide)
    have r9 : Room 9 _ := hr.mono (by decide)
    have ne : Apart ((c1, p1) :: cs) p := fun q hq => by
      rcases List.mem_cons.mp hq with z | z
      · rw [z]; exact n01
      · exact ne0 q z
    refine ⟨_, pss_cons (ps_set (i := 9) nd rfl (.inr rfl) (pe_call G1 r1 (by rfl) m1 k1 b1 .nil pass0 (pa_cons (pv 0) pa_nil)))
      (pss_cons (ps_for PassesOwn.never rfl (pi_range1 (by rfl) T.range (pa_cons pe_int pa_nil)) (pg_name (i := 1) nd rfl (.inl rfl))
        (pss_cons (ps_setLc (i := 2) (own := [("_law_k", 12)]) (g := gName 12) rfl nd rfl rfl (sw_true rfl rfl rfl (by decide +kernel)) (pi_range1 (by rfl) T.range (pa_cons (pe_op op_add pe_int (pe_call G2 r1 (by rfl) m2 k2 b2 .nil pass0 (pa_cons (pv 9) (pa_cons (pe_ix ix_list (pe_lst (pa_cons pe_int (pa_cons pe_int pa_nil))) (pe_call G2 r1 (by rfl) m2 k2 b2 .nil pass0 (pa_cons (pv 9) (pa_cons pe_int pa_nil))) (fun _ _ => rfl)) pa_nil)))) pa_nil)) (blkOk_by (own := [("_law_k", 12)]) (N := nmLaw) (sc := defScope s_law) (by decide +kernel)) (fun _ _ _ _ _ => pg_name (i := 12) nd rfl (Or.inl rfl)) (fun _ _ _ _ _ => pts_nil) (fun _ _ _ _ _ => pe_call G3 r3 (by rfl) m3 k3 b3 .nil pass0 (pa_cons (pv 9) pa_nil)))
        (pss_cons (ps_setLc (i := 3) (own := [("_law_line_here", 13)]) (g := gName 13) rfl nd rfl rfl (sw_true rfl rfl rfl (by decide +kernel)) (pi_list (pv 2)) (blkOk_by (own := [("_law_line_here", 13)]) (N := nmLaw) (sc := defScope s_law) (by decide +kernel)) (fun _ _ _ _ _ => pg_name (i := 13) nd rfl (Or.inl rfl)) (fun _ _ _ _ _ => pts_nil) (fun _ _ _ _ _ => pe_call G4 r2 (by rfl) m4 k4 b4 .nil pass0 (pa_cons (pv 9) (pa_cons (pv 13) pa_nil))))
        (pss_cons (ps_setLc (i := 4) (own := [("_law_line_here", 13), ("_law_lefts_here", 14)]) (g := gTup K 2 (gCons (gName 13) (gCons (gName 14) gNil))) rfl nd rfl rfl (sw_true rfl rfl rfl (by decide +kernel)) (pi_zip (by rfl) hz (pa_cons (pv 2) (pa_cons (pv 3) pa_nil))) (blkOk_by (own := [("_law_line_here", 13), ("_law_lefts_here", 14)]) (N := nmLaw) (sc := defScope s_law) (by decide +kernel))
          (fun _ _ _ _ _ => pg_tup rfl (pgs_cons (pg_name (i := 13) nd rfl (.inl rfl) (.inr rfl)) (pgs_cons (pg_name (i := 14) nd rfl (.inl rfl) (.inr rfl)) pgs_nil))) (fun _ _ _ _ _ => pts_nil) (fun _ _ _ _ _ => pe_call G5 r1 (by rfl) m5 k5 b5 .nil pass0 (pa_cons (pv 13) (pa_cons (pv 14) pa_nil))))
        (pss_cons (ps_set (i := 5) nd rfl (.inl rfl) (pe_tup (pa_cons (pe_callTy call_list_of (by rfl) T.list (by decide +kernel) (pa_cons (pv 2) pa_nil)) (pa_cons (pe_lc (own := [("_law_lefts_here", 14)]) (g := gName 14) (tt := tYes) rfl nd (pi_list (pv 3)) (blkOk_by (own := [("_law_lefts_here", 14)]) (N := nmLaw) (sc := defScope s_law) (by decide +kernel)) (fun _ _ _ _ _ => pg_name (i := 14) nd rfl (Or.inl rfl)) (fun _ _ _ _ _ => pts_nil) (fun _ _ _ _ _ => pe_callTy (T := "list") (r := rLof K) call_list_of (by rfl) T.list (by decide +kernel) (pa_cons (pv 14) pa_nil))) pa_nil))))
        (pss_cons (ps_for PassesOwn.never rfl (pi_range1 (by rfl) T.range (pa_cons pe_int pa_nil)) (pg_name (i := 6) nd rfl (.inl rfl))
          (pss_cons (ps_set (i := 7) nd rfl (.inl rfl) (pe_call G7 r9 (by rfl) m7 k7 b7 .nil pass0 (pa_cons (pe_ix ix_tup (pv 5) pe_int (fun _ _ => rfl)) (pa_cons (pe_ix ix_tup (pv 5) pe_int (fun _ _ => rfl)) pa_nil))))
          (pss_cons (ps_if (PW.pt (pw_or (pt_not (pt_val (pe_call G6 r5 (by rfl) m6 k6 b6 .nil pass0 (pa_cons (pv 7) (pa_cons (pv 4) pa_nil))))) (pw_or1 (pt_cmpR (op_neD hu) (pv 5) (pe_tup (pa_cons (pv 2) (pa_cons (pv 3) pa_nil))) (nomark _))))) (pss_one (ps_ret pe_bl)) pss_nil)
          (pss_one (ps_expr (pe_bm PySem.F.plainAttrs_list PySem.F.slot_list_append PySem.F.type_list_append mt_append (pv 7) (pa_cons (pe_tup pa_nil) pa_nil)))))))
        (pss_cons (ps_asg (pe_call G8 r2 (by rfl) m8 k8 b8 .nil pass0 (pa_cons (pv 9) (pa_cons (pv 2) (pa_cons (pv 3) pa_nil)))) (pg_tup rfl (pgs_cons (pg_name (i := 11) nd rfl (.inr rfl)) (pgs_cons (pg_name (i := 10) nd rfl (.inr rfl)) (pgs_cons (pg_name (i := 8) nd rfl (.inl rfl)) pgs_nil)))))
        (pss_one (ps_if (pt_not (pt_val (pe_callC (names := ["_law_some", "_law_ends"]) G9 hr (by rfl) m9 k9 b9 (fun _ _ => rfl) key_cb (pa_cons (pe_lst (pa_cons (pe_lamC TB rfl rfl fun y hy e => .inl (key_lb y hy e)) pa_nil)) (pa_cons (pe_tup (pa_cons pe_str (pa_cons (pv 8) pa_nil))) pa_nil))))) (pss_one (ps_ret pe_bl)) pss_nil)))))))))
      (pss_one (ps_ret (pe_cmpR (op_eqD hu) (pe_call G7 r9 (by rfl) m7 k7 b7 .nil pass0 (pa_cons (pe_lst pa_nil) (pa_cons (pe_lst pa_nil) pa_nil))) (pe_lst pa_nil) (nomark _))))), ?_⟩
    have szl : (1000 : Nat) < sizeLine := by decide
    refine ⟨_, rfl, a, ns, rfl, hS, hl, fun b l H1 hB x1 nb nl => ⟨_, rfl, by decide, by decide, for_range (n := 3) (fun _ σ H' => ∃ (c1 c2 c3 c4 c5 c6 c7 c8 c10 c11 c12 c13 c14 : Option V), σ = [some (.ref a), c1, c2, c3, c4, c5, c6, c7, c8, some (.ref b), c10, c11, c12, c13, c14] ∧ BoxAt H' b l ∧ Tabs cs H' ∧ LamX.TabS H' p1 rbQ ∧ LamX.TabS H' p lawQ)
      ⟨none, none, none, none, none, none, none, none, none, none, none, none, none, rfl, hB, tabs_ext hT x1, hP.ext x1, hL.ext x1⟩ ?_ ?_⟩⟩
    · clear hB x1 nb nl
      rintro i σ H1 hi ⟨v1, v2, v3, v4, v5, v6, v7, v8, v10, v11, v12, v13, v14, rfl, hB1, hT1, hP1, hL1⟩
      refine ⟨_, rfl, line10 (by decide), fun p0 np0 => ⟨_, rfl, b, l, 2, rfl, box_new hB1 np0, by decide, by decide, fun r H2 r0 r1 hB2 x2 => ?_⟩⟩
      obtain ⟨nb, nl⟩ := new_ne hB1 np0
      have hp2 := x2 p0 _ upd_same nb nl
      have y2 := (kb_new (b := b) (l := l) (o := .lst [V.int 4, V.int 30]) np0).trans x2
      obtain ⟨m, hm, em⟩ := pick (xs := [(4 : Int), 30]) (i := r) r0 r1
      have hm2 : 0 < m ∧ m ≤ 30 := by
        simp only [List.mem_cons, List.not_mem_nil, or_false] at hm
        omega
      refine ⟨p0, _, _, .int m, rfl, rfl, SqL.of hp2, atI_map (f := V.int) em, b, l, m, rfl, hB2, hm2.1, by omega, fun t H3 t0 t1 hB3 x3 => ⟨1, t, rfl, rfl, _, rfl, by omega, by omega, fun D nD => ?_⟩⟩
      refine lc_range (n := (1 + t).toNat) (fun i H' => LnsAt b l H1 D i H') (LnsAt.start hB3 (y2.trans x3) nD) ?_ ?_
      · rintro i H4 hi o
        refine ⟨rfl, _, rfl, b, l, rfl, o.box, fun z H5 hz sz hB5 x5 => ?_⟩
        obtain ⟨acc, hacc, hl, o2⟩ := o.more ⟨hz, sz⟩ hB5 x5
        exact ⟨acc, hacc, by omega, o2⟩
      rintro H4 o
      obtain ⟨zs, hzl, hzs, hD⟩ := o.lns
      have hB4 := o.box
      have hT4 := tabs_kb hT1 hB1 o.keep
      have hP4 := tabS_kb hP1 hB1 o.keep
      have hL4 := tabS_kb hL1 hB1 o.keep
      have db := o.db
      have dl := o.dl
      have lnz : LnOk zs := ⟨by omega, fun z hz => (hzs z hz).1, fun z hz => (hzs z hz).2⟩
      have hz1 : 1 ≤ zs.length ∧ zs.length ≤ 30 := by omega
      clear o hp2 y2 x2 x3 hB2 hB3 hzl np0 nD hzs hB1 hT1 hP1 hL1 nb nl
      -- the left ends
      refine ⟨_, rfl, D, rfl, ⟨_, SqL.of hD⟩, fun D2 nD2 => lc_list (xs := sV zs) (fun i H' => LefAt b l H4 D2 i H') (LefAt.start hB4 (fun c o h _ _ => h) nD2) (fun i H' _ x => SqL.of (x.keep D _ hD db dl)) ?_ ?_⟩
      · rintro i v H5 hv o
        obtain ⟨z, hz, rfl⟩ := get_map hv
        have hi := (List.getElem?_eq_some_iff.mp hz).1
        refine ⟨rfl, _, rfl, _, rfl, b, l, z, rfl, lnz.ln z (List.mem_of_getElem? hz), o.box, fun r ns H6 he hl hB6 x6 nr rb rl hr => ?_⟩
        obtain ⟨acc, hacc, hl2, o2⟩ := o.more he hl hB6 x6 nr rb rl hr
        exact ⟨acc, hacc, by omega, o2⟩
      rintro H5 o
      obtain ⟨es, nss, hel, hE⟩ := o.lef
      rw [List.length_map] at hel
      have hB5 := o.box
      have hT5 := tabs_kb hT4 hB4 o.keep
      have hP5 := tabS_kb hP4 hB4 o.keep
      have hL5 := tabS_kb hL4 hB4 o.keep
      have hD5 : Hd b l H5 D (.lst (sV zs)) := ⟨o.keep D _ hD db dl, db, dl⟩
      have hnl : nss.length = zs.length := by rw [← hE.len, hel]
      clear o hD hT4 hP4 hL4 hB4 nD2 db dl
      -- what is due
      have hex : ∀ {H' : Hp}, LamX.ExtN H5 H' → LeftsAt b l H' D2 es nss := fun x => hE.gw x
      refine ⟨_, rfl, _, rfl, D, D2, _, _, rfl, SqL.of hD5.1, SqL.of hE.lst, fun D3 nD3 => lc_it (walk_zip (xs := sV zs) (ys := es.map V.ref) (n := zs.length) (by rw [List.length_map, List.length_map, hel, Nat.min_self])) (fun i H' => Ex cs H5 H' ∧ ∃ ps : List Addr, H' D3 = some (.lst (ps.map V.ref)) ∧ ps.length = i ∧ ∀ (j : Nat) (q : Addr) (z : Str) (ns : List Int), ps[j]? = some q → zs[j]? = some z → nss[j]? = some ns → H' q = some (.tup (sV (cutR z ns))))
        ⟨Ex.laid hT5 nD3, [], upd_same, rfl, fun j q z ns h => by cases h⟩ (fun i H' _ x => ⟨x.1.sqL (SqL.of hD5.1), x.1.sqL (SqL.of hE.lst)⟩) ?_ ?_⟩
      · rintro i v H6 H7 hi ⟨x4, ps, hD4, hpl, hps⟩ ⟨Tp, w1, u, rfl, hnw, rfl, hv, hu⟩
        obtain ⟨z, hz1, rfl⟩ := get_map hv
        obtain ⟨e, he, rfl⟩ := get_map hu
        obtain ⟨ns, hns⟩ := getP (xs := nss) (i := i) (by omega)
        obtain ⟨e1, _, _, e2, e3⟩ := hE.at_ i e ns he hns
        have x5 := Ex.laid (o := .tup [.str z, .ref e]) x4.tab hnw
        generalize hH7 : upd H6 Tp (.tup [.str z, .ref e]) = H7 at x5 ⊢
        have hTp : H7 Tp = some (.tup [.str z, .ref e]) := by rw [← hH7, upd_same]
        have x45 := x4.trans x5
        have hD5' := x5.lst hD4
        refine ⟨Tp, _, rfl, .inl (.inl hTp), rfl, _, _, rfl, _, _, rfl, rfl, rfl, _, rfl, _, rfl, z, e, ns, rfl, lnz.ln z (List.mem_of_getElem? hz1), x5.tab, SqL.of (x45.lst e1), e2, fun r H8 x6 nr hr6 => ?_⟩
        have hD6 := x6.lst hD5'
        have nDr : D3 ≠ r := fun e => by rw [e, nr] at hD5'; cases hD5'
        refine ⟨_, hD6, by rw [List.length_map]; omega, ex_new hT5 (x45.trans x6) nD3, ps ++ [r], ?_, by rw [List.length_append, hpl]; rfl, fun j q z2 ns2 h1 h2 h3 => ?_⟩
        · rw [upd_same, List.map_append]; rfl
        · by_cases hj : j < ps.length
          · rw [List.getElem?_append_left hj] at h1
            have h0 := x6.tup (x5.tup (hps j q z2 ns2 h1 h2 h3))
            rw [upd_ne (fun e => by rw [e, hD6] at h0; cases h0)]
            exact h0
          · have hl2 := (List.getElem?_eq_some_iff.mp h1).1
            rw [List.length_append, List.length_singleton] at hl2
            have ej : j = i := by omega
            subst ej
            rw [List.getElem?_append_right (by omega), hpl, Nat.sub_self] at h1
            cases h1
            rw [hz1] at h2
            cases h2
            rw [hns] at h3
            cases h3
            rw [upd_ne nDr.symm]
            exact hr6
      rintro H6 ⟨x6, ps, hD3, hpl, hps⟩
      -- handed in
      have hE6 := hE.gw x6.ext
      refine ⟨_, rfl, D, _, rfl, .inl (SqL.of (x6.lst hD5.1)), fun q nq => ?_⟩
      have z7 := Ex.laid (o := .lst (sV zs)) x6.tab nq
      have hq7 : upd H6 q (.lst (sV zs)) q = some (.lst (sV zs)) := upd_same
      generalize upd H6 q (.lst (sV zs)) = H7 at z7 hq7 ⊢
      have x7 := x6.trans z7
      have hE7 := hE6.gw z7.ext
      refine ⟨_, rfl, D2, rfl, ⟨_, SqL.of hE7.lst⟩, fun D4 nD4 => lc_list (xs := es.map V.ref) (fun i H' => Ex cs H7 H' ∧ ∃ fs : List Addr, H' D4 = some (.lst (fs.map V.ref)) ∧ fs.length = i ∧ ∀ (j : Nat) (q : Addr) (ns : List Int), fs[j]? = some q → nss[j]? = some ns → H' q = some (.lst (iV ns)) ∧ q ≠ D4)
        ⟨Ex.laid z7.tab nD4, [], upd_same, rfl, fun j q ns h => by cases h⟩ (fun i H' _ x => x.1.sqL (SqL.of hE7.lst)) ?_ ?_⟩
      · rintro i v H8 hv ⟨x8, fs, hD8, hfl, hfs⟩
        obtain ⟨e, he, rfl⟩ := get_map hv
        have hi := (List.getElem?_eq_some_iff.mp he).1
        obtain ⟨ns, hns⟩ := getP (xs := nss) (i := i) (by omega)
        obtain ⟨e1, _, _, e2, e3⟩ := hE7.at_ i e ns he hns
        refine ⟨rfl, _, rfl, e, _, rfl, .inl (SqL.of (x8.lst e1)), fun r nr => ?_⟩
        have x9 := Ex.laid (o := .lst (iV ns)) x8.tab nr
        have hr9 : upd H8 r (.lst (iV ns)) r = some (.lst (iV ns)) := upd_same
        have nDr : D4 ≠ r := fun e => by rw [e, nr] at hD8; cases hD8
        generalize upd H8 r (.lst (iV ns)) = H9 at x9 hr9 ⊢
        have hD9 := x9.lst hD8
        refine ⟨_, hD9, by rw [List.length_map]; omega, ex_new z7.tab (x8.trans x9) nD4, fs ++ [r], ?_, by rw [List.length_append, hfl]; rfl, fun j q ns2 h1 h2 => ?_⟩
        · rw [upd_same, List.map_append]; rfl
        · by_cases hj : j < fs.length
          · rw [List.getElem?_append_left hj] at h1
            obtain ⟨h0, h3⟩ := hfs j q ns2 h1 h2
            exact ⟨by rw [upd_ne h3]; exact x9.lst h0, h3⟩
          · have hl2 := (List.getElem?_eq_some_iff.mp h1).1
            rw [List.length_append, List.length_singleton] at hl2
            have ej : j = i := by omega
            subst ej
            rw [List.getElem?_append_right (by omega), hfl, Nat.sub_self] at h1
            cases h1
            rw [hns] at h2
            cases h2
            exact ⟨by rw [upd_ne nDr.symm]; exact hr9, nDr.symm⟩
      rintro H8 ⟨x8, fs, hD8, hfl, hfs⟩
      rw [List.length_map, hel] at hfl
      refine ⟨by show 2 ≤ sizeLine; decide, fun hh nhh => ?_⟩
      have x9 := Ex.laid (o := .tup [.ref q, .ref D4]) x8.tab nhh
      have hh9 : upd H8 hh (.tup [.ref q, .ref D4]) hh = some (.tup [.ref q, .ref D4]) := upd_same
      generalize upd H8 hh (.tup [.ref q, .ref D4]) = H9 at x9 hh9 ⊢
      have y9 := x8.trans x9
      have hq9 := y9.lst hq7
      have hD9 := x9.lst hD8
      have hfs9 : ∀ (j : Nat) (q : Addr) (ns : List Int), fs[j]? = some q → nss[j]? = some ns → H9 q = some (.lst (iV ns)) := fun j q ns h1 h2 => x9.lst (hfs j q ns h1 h2).1
      have w9 := x7.trans y9
      have hd9 := (z7.trans y9).lst hD3
      have hps9 : ∀ (j : Nat) (q : Addr) (z : Str) (ns : List Int), ps[j]? = some q → zs[j]? = some z → nss[j]? = some ns → H9 q = some (.tup (sV (cutR z ns))) := fun j q z ns h1 h2 h3 => (z7.trans y9).tup (hps j q z ns h1 h2 h3)
      have hE9 := hE.gw w9.ext
      have hDD := w9.lst hD5.1
      clear hq7 hE6 hE7 z7 x7 x6 hD8 hfs x8 x9 y9 hD3 hps nhh nq nD3 nD4
      have hdp : ∀ {H' : Hp} {as : List Addr}, as.length = zs.length → (∀ (j : Nat) (u : Addr) (z : Str) (ns : List Int), as[j]? = some u → zs[j]? = some z → nss[j]? = some ns → H' u = some (.tup (sV (cutR z ns)))) → DpAll K H' (as.map V.ref) (rowsD (List.zipWith cutR zs nss)) := fun {H' as} hl h =>
        dp_rows (by rw [List.length_zipWith, hnl, Nat.min_self]; exact hl) fun j u r h1 h2 => by
          obtain ⟨z, ns, h3, h4, h5⟩ := List.getElem?_zipWith_eq_some.mp h2
          subst h5
          exact SqT.of (h j u z ns h1 h3 h4)
      have hdok : dok (.list (rowsD (List.zipWith cutR zs nss))) = true := dok_parts (by rw [List.length_zipWith]; omega) fun r hr => by
        obtain ⟨j, hj⟩ := List.getElem?_of_mem hr
        obtain ⟨z, ns, h3, h4, h5⟩ := List.getElem?_zipWith_eq_some.mp hj
        subst h5
        rw [cut_len]
        have h6 := (List.getElem?_eq_some_iff.mp h4).1
        obtain ⟨e, he⟩ := getP (xs := es) (i := j) (by omega)
        have := (hE.at_ j e ns he h4).2.2.2.1.len
        omega
      refine ⟨_, rfl, by decide, by decide, for_range (n := 2) (fun _ σ H' => ∃ (v6 v7 : Option V), σ = [some (.ref a), some (.int (0 + (i : Nat))), some (.ref D), some (.ref D2), some (.ref D3), some (.ref hh), v6, v7, v8, some (.ref b), v10, v11, v12, v13, v14] ∧ Ex ((c1, p1) :: cs) H9 H' ∧ LamX.TabS H' p1 rbQ) ⟨v6, v7, rfl, Ex.refl (tabs_more w9.tab (tabS_ex w9 ne1 hP5)), tabS_ex w9 ne1 hP5⟩ ?_ ?_⟩
      · rintro j σ H10 hj ⟨v6, v7, rfl, x10, hP10⟩
        refine ⟨_, rfl, hh, _, 0, .ref q, rfl, rfl, SqT.of (x10.tup hh9), rfl, _, rfl, hh, _, 1, .ref D4, rfl, rfl, SqT.of (x10.tup hh9), rfl, q, D4, fs, zs, nss, rfl, tabs_less x10.tab, hP10, SqL.of (x10.lst hq9), lnz, SqL.of (x10.lst hD9), hfl, hnl, fun i e ns h1 h2 => ?_, fun r ps2 H11 x11 hP11 nr hr hpl2 hps2 => ?_⟩
        · obtain ⟨e0, he0⟩ := getP (xs := es) (i := i) (by have := (List.getElem?_eq_some_iff.mp h1).1; omega)
          obtain ⟨_, _, _, q4, q5⟩ := hE.at_ i e0 ns he0 h2
          exact ⟨SqL.of (x10.lst (hfs9 i e ns h1 h2)), q4, q5⟩
        have x := x10.trans x11
        refine ⟨_, rfl, _, rfl, _, _, .list (rowsD (List.zipWith cutR zs nss)), rfl, .lst (SqL.of hr) (hdp hpl2 hps2), .lst (SqL.of (x.lst hd9)) (hdp hpl fun j u z ns h1 h2 h3 => x.tup (hps9 j u z ns h1 h2 h3)), dep_rows _, hdok, true, rfl, iteF ⟨_, rfl, _, rfl, _, rfl, by show 2 ≤ sizeLine; decide, fun tt ntt => ?_⟩⟩
        have y := x.trans (Ex.laid (o := .tup [.ref D, .ref D2]) x.tab ntt)
        have htt : upd H11 tt (.tup [.ref D, .ref D2]) tt = some (.tup [.ref D, .ref D2]) := upd_same
        have hr2 := (Ex.laid (o := .tup [.ref D, .ref D2]) x.tab ntt).lst hr
        have hP12 := hP11.ext (same_new (o := .tup [.ref D, .ref D2]) ntt)
        generalize upd H11 tt (.tup [.ref D, .ref D2]) = H12 at y htt hr2 hP12 ⊢
        obtain ⟨s1, s2⟩ := shaped_hD lnz nss
        refine ⟨hD zs nss, hD zs nss, .tup (SqT.of (y.tup hh9)) (.cons (.lst (SqL.of (y.lst hq9)) (dp_strs zs)) (.cons (.lst (SqL.of (y.lst hD9)) (dp_ends (by rw [hfl, hnl]) fun i e ns h1 h2 => y.lst (hfs9 i e ns h1 h2))) .nil)),
          .tup (SqT.of htt) (.cons (.lst (SqL.of (y.lst hDD)) (dp_strs zs)) (.cons (.lst (SqL.of (y.lst hE9.lst)) (dp_ends hE.len fun i e ns h1 h2 => y.lst (hE9.at_ i e ns h1 h2).1)) .nil)), s1, s1, ?_⟩
        rw [s2]
        refine ⟨false, rfl, iteF ?_⟩
        refine ⟨_, rfl, .inl ⟨rfl, _, SqL.of hr2⟩, small0, fun t3 nt3 => ⟨r, _, _, rfl, rfl, by rw [upd_ne (ne_of_none hr2 nt3)]; exact hr2, by rw [List.length_map]; omega, ?_⟩⟩
        have z3 := Ex.laid (o := .tup []) y.tab nt3
        have z3' : H12 r = some (.lst (ps2.map V.ref)) → upd H12 t3 (.tup []) r = some (.lst (ps2.map V.ref)) := fun e => z3.lst e
        refine ⟨_, _, rfl, ex_new (Ex.refl (tabs_more w9.tab (tabS_ex w9 ne1 hP5))).tab (y.trans z3) (x10.old _ nr), ?_⟩
        exact tabS_updL (hP12.ext (same_new (o := .tup []) nt3)) (z3' hr2)
      rintro σ H10 ⟨v6, v7, rfl, x10, hP10⟩
      have x := (w9.lift (c := c1) ne1 hP5).trans x10
      have hB10 := box_ext hB5 x.ext
      have hD10 : Hd b l H10 D (.lst (sV zs)) := ⟨x.lst hD5.1, hD5.2⟩
      have hE10 := hE.gw x.ext
      have hL10 := tabS_ex x ne hL5
      have hT10 := tabs_less x.tab
      clear hdp hdok hd9 hps9 hq9 hD9 hfs9 hh9 w9 x10 x hE9 hDD hB5 hD5 hE hT5 hP5 hL5 hex
      -- what can't be
      refine ⟨_, rfl, _, rfl, _, rfl, b, l, D, D2, es, zs, nss, rfl, hB10, hD10, lnz, hz1.1, hE10, hnl, fun tq sa su n H11 hB11 x11 htq hbad hn => ?_⟩
      have hT11 := tabs_kb hT10 hB10 x11
      have hP11 := tabS_kb hP10 hB10 x11
      have hL11 := tabS_kb hL10 hB10 x11
      clear hT10 hP10 hL10 hB10 hD10 hE10 x11
      refine ⟨tq, _, rfl, .inl (.inl htq), rfl, _, _, rfl, _, _, rfl, _, _, rfl, rfl, ?_⟩
      refine ⟨hL11, fun f1 cc H19 e1 e2 t1 nf hf hc => ⟨by show 1 ≤ sizeLine; decide, fun ql nql => ⟨_, rfl, by show 2 ≤ sizeLine; decide, fun dd ndd cl Tc un => ?_⟩⟩⟩
      have z19 := ex_lam (c := c) (tabs_more (c := c1) hT11 hP11) ne hL11 e1 e2 t1
      have hP19 := tabS_k1 hP11 hL11 e1 n01
      have z20 := z19.trans (Ex.laid (o := .lst [V.ref f1]) z19.tab nql)
      have hq20 : upd H19 ql (.lst [V.ref f1]) ql = some (.lst [V.ref f1]) := upd_same
      have hf20 : upd H19 ql (.lst [V.ref f1]) f1 = _ := (upd_ne (ne_of_none hf nql)).trans hf
      have hc20 : upd H19 ql (.lst [V.ref f1]) cc = _ := (upd_ne (ne_of_none hc nql)).trans hc
      have t20 := t1.ext (same_new (o := .lst [V.ref f1]) nql)
      have hP20 := hP19.ext (same_new (o := .lst [V.ref f1]) nql)
      generalize upd H19 ql (.lst [V.ref f1]) = H20 at z20 hq20 hf20 hc20 t20 hP20 ndd un ⊢
      have z21 := z20.trans (Ex.laid (o := .tup [V.str "BadLines", V.int (n : Nat)]) z20.tab ndd)
      have hdd21 : upd H20 dd (.tup [V.str "BadLines", V.int (n : Nat)]) dd = some (.tup [V.str "BadLines", V.int (n : Nat)]) := upd_same
      have hq21 : upd H20 dd (.tup [V.str "BadLines", V.int (n : Nat)]) ql = _ := (upd_ne (ne_of_none hq20 ndd)).trans hq20
      have hf21 : upd H20 dd (.tup [V.str "BadLines", V.int (n : Nat)]) f1 = _ := (upd_ne (ne_of_none hf20 ndd)).trans hf20
      have hc21 : upd H20 dd (.tup [V.str "BadLines", V.int (n : Nat)]) cc = _ := (upd_ne (ne_of_none hc20 ndd)).trans hc20
      have t21 := t20.ext (same_new (o := .tup [V.str "BadLines", V.int (n : Nat)]) ndd)
      have hP21 := hP20.ext (same_new (o := .tup [V.str "BadLines", V.int (n : Nat)]) ndd)
      generalize upd H20 dd (.tup [V.str "BadLines", V.int (n : Nat)]) = H21 at z21 hdd21 hq21 hf21 hc21 t21 hP21 un ⊢
      have T21 := tabs_less (tabs_less z21.tab)
      refine all_lamB ne1 G7b k7 b7 m7 Tc un rfl rfl rfl rfl rfl T21 hP21 hq21 hdd21 hf21 hc21 (hbad.gw z21.ext) fun H22' x22 hP22 _ => ⟨true, rfl, iteF ?_⟩
      generalize delC H22' cl = H22 at x22 hP22 ⊢
      exact ⟨_, _, _, _, _, _, _, _, _, _, _, _, _, rfl, box_ext (box_ext hB11 z21.ext) x22.ext, tabs_less x22.tab, hP22, tabS_ex x22 ne t21⟩
    · rintro σ H1 ⟨v1, v2, v3, v4, v5, v6, v7, v8, v10, v11, v12, v13, v14, rfl, hB1, hT1, hP1, hL1⟩
      refine ⟨small0, fun q nq => ⟨small0, fun q2 nq2 => ?_⟩⟩
      have xq := Ex.laid (o := .lst []) hT1 nq
      have xq2 := xq.trans (Ex.laid (o := .lst []) xq.tab nq2)
      have l2 := (hP1.ext (same_new (o := .lst []) nq)).ext (same_new (o := .lst []) nq2)
      refine ⟨q, q2, [], [], [], rfl, xq2.tab, l2, SqL.of ((Ex.laid (cs := cs) (o := .lst []) xq.tab nq2).lst upd_same), ⟨by decide, fun z hz => by simp at hz, fun z hz => by simp at hz⟩, SqL.of upd_same, rfl, rfl, (fun i e ns h1 _ => by cases h1), fun r ps H2 x2 tS nr hr2 hpl _ => ?_⟩
      cases ps with
      | cons p ps => simp at hpl
      | nil =>
        refine ⟨small0, fun q2 nq2 => ?_⟩
        have x3 := Ex.laid (o := .lst []) x2.tab nq2
        exact ⟨.list [], .list [], .lst (SqL.of (x3.lst hr2)) .nil, .lst (SqL.of upd_same) .nil, rfl, rfl, k _⟩
end
end TG

namespace TG
open PySem PySem.Spec PyProof.Rows L2 NdefX GenW Gx Lv
theorem ok_clX7 {P : Program} {w : World} {K : PySem.W.Frag} {mg : Str → Option Value} {base : Heap} {cs : List (Addr × Addr)} {f C fI : Addr} {fd fdI : FuncData} (T : Txt mg) (R : RaiseC P w K mg base "BadLines" "line" C fI fdI) (F : Fun K "check_lists" "check_lists" s_check_lists f fd) : FnOk P w K mg base (L2.CX P w) 8 f fd ["told", "many", "fits"] (spListsX P w K mg base cs 7 C) := ok_clistsX (kl := 7) T R F (by decide)
end TG

namespace TG
open PySem PySem.Spec PyProof.Rows L2
/-! ### the head -/
def dd (i : Nat) (x : Str) : He.DefD := ⟨(x, none), x, x, defArgs (top i), defBody (top i), defScope (top i), [], []⟩
def fnL : List He.DefD := [dd 19 "is_whole", dd 20 "is_sign", dd 21 "is_text_of_signs", dd 22 "check_lines", dd 23 "are_places", dd 24 "are_left_ends", dd 25 "check_lists", dd 27 "read_back", dd 28 "cut", dd 30 "_law_begun", dd 31 "_law_take", dd 32 "_law_alike", dd 33 "_law_told", dd 34 "_law_all", dd 35 "_law_sign", dd 36 "_law_line", dd 37 "_law_lefts", dd 38 "_law_cut", dd 39 "_law_bad", dd 40 "law"]
def faL : List He.Fa := [.glo "is_whole", .glo "is_sign", .glo "is_text_of_signs", .glo "check_lines", .glo "are_places", .glo "are_left_ends", .glo "check_lists", .glo "read_back", .glo "cut", .glo "_law_begun", .glo "_law_take", .glo "_law_alike", .glo "_law_told", .glo "_law_all", .glo "_law_sign", .glo "_law_line", .glo "_law_lefts", .glo "_law_cut", .glo "_law_bad", .glo "law", .int "BLANK" 32, .int "TILDE" 126, .int "PERCENT" 37, .int "MOST_LINES" 30, .int "FARTHEST" 200, .free "isinstance", .free "len", .free "range", .free "max", .free "min", .free "all", .free "str", .free "int", .free "bool", .free "list", .free "tuple", .free "enumerate", .free "ord", .free "zip", .free "sorted", .glo "GrowError", .glo "BadPage", .glo "BadStyle", .glo "BadRow", .glo "BadCell", .glo "BadCount", .glo "BadLines", .glo "BadStep", .glo "BadStroke", .glo "BadText", .glo "BadHand", .glo "TooMuch", .free "ValueError", .free "super"]
def tfB : List He.Defn := [("is_text_of_signs", none), ("are_places", none)]
def lmL : List He.Defn := [("read_back", none), ("law", none)]
def tfL : List He.Defn := tfB ++ lmL
def exL : PySem.W.Frag → Bool := fun K => (lmL.all fun r => (tfB.all fun q => decide ((He.cT K q).2 ≠ (He.cT K r).2)) && (lmL.all fun q => decide (q = r) || decide ((He.cT K q).2 ≠ (He.cT K r).2)))
theorem subL {K : PySem.W.Frag} {q : Addr × Addr} (h : q ∈ tfB.map (He.cT K)) : q ∈ tfL.map (He.cT K) := by
  unfold tfL
  rw [List.map_append]
  exact List.mem_append_left _ h
theorem memL {K : PySem.W.Frag} {r : He.Defn} (h : r ∈ lmL) : He.cT K r ∈ tfL.map (He.cT K) := by
  unfold tfL
  rw [List.map_append]
  exact List.mem_append_right _ (List.mem_map_of_mem h)
theorem ne_of_ex {K : PySem.W.Frag} (h : exL K = true) {r : He.Defn} (hr : r ∈ lmL) : Apart (tfB.map (He.cT K)) (He.cT K r).2 := fun q hq => by
  obtain ⟨d, hd, rfl⟩ := List.mem_map.mp hq
  have z := (Bool.and_eq_true_iff.mp (List.all_eq_true.mp h r hr)).1
  have z := List.all_eq_true.mp z d hd
  simpa using z
theorem ne_of_ex2 {K : PySem.W.Frag} (h : exL K = true) {r q : He.Defn} (hr : r ∈ lmL) (hq : q ∈ lmL) (n : q ≠ r) : (He.cT K q).2 ≠ (He.cT K r).2 := by
  have z := (Bool.and_eq_true_iff.mp (List.all_eq_true.mp h r hr)).2
  have z := List.all_eq_true.mp z q hq
  simpa [n] using z
theorem fun_of {K : PySem.W.Frag} {x : Str} {st : Stmt} {f : Addr} {fd : FuncData} (F : FunD K x x (defArgs st) (defBody st) (defScope st) [] [] f fd) : Fun K x x st f fd := by
  obtain ⟨⟨oc, od, dV, kV, doc, pm, an, cdv, ct, osl, e, lk, hcd, hd, _⟩, kp⟩ := F
  rcases hd with ⟨_, hd⟩ | ⟨hd, _⟩
  · subst hd
    exact ⟨⟨oc, od, kV, doc, pm, an, cdv, ct, osl, e, lk, hcd⟩, kp⟩
  · exact absurd rfl hd
/-- a def of the top, by its name -/
structure At (K : PySem.W.Frag) (mg : Str → Option Value) (x : Str) (st : Stmt) (fd : FuncData) : Prop where
  mg_ : mg x = some (.ref (He.ga K x))
  fn : Fun K x x st (He.ga K x) fd
theorem At.kp {K : PySem.W.Frag} {mg : Str → Option Value} {x : Str} {st : Stmt} {fd : FuncData} (a : At K mg x st fd) : PySem.W.keepIn K (.ref (He.ga K x)) = true := a.fn.kp
theorem at_of {fa : List He.Fa} {fn : List He.DefD} {K : PySem.W.Frag} {h : Heap} {mg : Str → Option Value} (X : K.In h) (G : h.Ns mainGlobals mg) (c : He.SaysD fa fn K) {i : Nat} {x : Str} (hd : dd i x ∈ fn) (hf : He.Fa.glo x ∈ fa) : ∃ fd, At K mg x (top i) fd := by
  obtain ⟨fd, F⟩ := c.defs hd
  exact ⟨fd, He.glo_ok X G (c.facts hf), fun_of F⟩
theorem code_of {K : PySem.W.Frag} {mg : Str → Option Value} {x : Str} {st : Stmt} {fd : FuncData} (a : At K mg x st fd) : fd.code = .ref (He.cT K (x, none)).1 := by
  obtain ⟨oc, od, kV, doc, pm, an, cdv, ct, osl, e, lk, hcd⟩ := a.fn.ex
  obtain ⟨c, hc⟩ := He.codeIn_ref hcd
  have e2 : fd.code = .ref c := by rw [e, ← hc]
  have e3 : He.codeOf K (x, none) = c := He.codeOf_eq (p := (x, none)) lk e2
  show fd.code = .ref (He.codeOf K (x, none))
  rw [e3, e2]
theorem tab_conv {base : Heap} {mg : Str → Option Value} {c P : Addr} (t : LamX.TabB base mg c P) : GxR.TabB base mg c P := ⟨t.code, t.bm, t.gP⟩

theorem txt_of {K : PySem.W.Frag} {h : Heap} {mg : Str → Option Value} (X : K.In h) (G : h.Ns mainGlobals mg) (c : He.SaysD faL fnL K) : Txt mg := by
  constructor
  all_goals exact He.free_ok X G (c.facts (by simp [faL]))
theorem consts_of {K : PySem.W.Frag} {h : Heap} {mg : Str → Option Value} (X : K.In h) (G : h.Ns mainGlobals mg) (c : He.SaysD faL fnL K) : Consts mg := by
  constructor
  all_goals exact He.int_ok X G (c.facts (by simp [faL]))
theorem consts2_of {K : PySem.W.Frag} {h : Heap} {mg : Str → Option Value} (X : K.In h) (G : h.Ns mainGlobals mg) (c : He.SaysD faL fnL K) : Consts2 mg := by
  constructor
  all_goals exact He.int_ok X G (c.facts (by simp [faL]))
def excCB (K : PySem.W.Frag) (D : Addr) : Bool :=
  He.eqO (PySem.W.findIn K (.ref D) "__getattribute__") (some (some (.builtin "BaseException.__getattribute__"))) && (He.eqO (PySem.W.findIn K (.ref D) "__getattr__") (some none) && (decide (PySem.W.subIn K (.ref D) (.type "BaseException") = some true) && (PySem.W.hasDictIn K D && (He.eqO (PySem.W.findIn K (.ref D) "__class__") (some (some (.builtin "object.__class__"))) &&
    (He.eqO (PySem.W.specialIn K (.builtin "object.__class__") "__get__") (some (some (.builtin "getset_descriptor.__get__"))) && (decide (PySem.W.takesIn K (.builtin "object.__class__") = some true) && decide (PySem.W.mroIn K D (.type "object") = some true)))))))
theorem excCB_ok {K : PySem.W.Frag} {D : Addr} (h : excCB K D = true) : ExcC K D := by
  obtain ⟨h1, h⟩ := He.ba h
  obtain ⟨h2, h⟩ := He.ba h
  obtain ⟨h3, h⟩ := He.ba h
  obtain ⟨h4, h⟩ := He.ba h
  obtain ⟨h5, h⟩ := He.ba h
  obtain ⟨h6, h⟩ := He.ba h
  obtain ⟨h7, h8⟩ := He.ba h
  exact ⟨He.eqO_ok h1, He.eqO_ok h2, of_decide_eq_true h3, h4, He.eqO_ok h5, He.eqO_ok h6, of_decide_eq_true h7, of_decide_eq_true h8⟩
def errsB (K : PySem.W.Frag) : Bool := (List.range 11).all fun j => excCB K (He.ga K (nmE j)) && (decide (PySem.W.exmOne K (.ref (He.ga K (nmE j))) (.ref (He.ga K "GrowError")) = some true) && (decide (PySem.W.kitOne K (.ref (He.ga K (nmE j))) (.type "ValueError") = some true) &&
  (((List.range 11).all fun i => decide (PySem.W.kitOne K (.ref (He.ga K (nmE j))) (.ref (He.ga K (nmE i))) = some (decide (j = i)))) && (decide (flE j = "") || He.eqO (PySem.W.findIn K (.ref (He.ga K (nmE j))) (flE j)) (some none)))))
theorem errs_of {K : PySem.W.Frag} {h : Heap} {mg : Str → Option Value} (X : K.In h) (G : h.Ns mainGlobals mg) (c : He.SaysD faL fnL K) (e : errsB K = true) : Errs K mg := by
  have at_ : ∀ j, j < 11 → _ := fun j hj => List.all_eq_true.mp e j (List.mem_range.mpr hj)
  refine ⟨fun j hj => ?_, He.glo_ok X G (c.facts (by simp [faL])), fun j hj => excCB_ok (He.ba (at_ j hj)).1, fun j hj => of_decide_eq_true (He.ba (He.ba (at_ j hj)).2).1, fun j hj => of_decide_eq_true (He.ba (He.ba (He.ba (at_ j hj)).2).2).1, fun i j hi hj => ?_, fun j hj hn => ?_, He.free_ok X G (c.facts (by simp [faL]))⟩
  · have : ∀ x ∈ excNm, mg x = some (.ref (He.ga K x)) := by
      intro x hx
      simp only [excNm, List.mem_cons, List.not_mem_nil, or_false] at hx
      rcases hx with rfl | rfl | rfl | rfl | rfl | rfl | rfl | rfl | rfl | rfl | rfl <;> exact He.glo_ok X G (c.facts (by simp [faL]))
    refine this _ ?_
    have h2 : j < excNm.length := hj
    simp only [nmE, List.getD, List.getElem?_eq_getElem h2, Option.getD_some]
    exact List.getElem_mem h2
  · have z := (He.ba (He.ba (He.ba (He.ba (at_ i hi)).2).2).2).1
    exact of_decide_eq_true (List.all_eq_true.mp z j (List.mem_range.mpr hj))
  · have z := (He.ba (He.ba (He.ba (He.ba (at_ j hj)).2).2).2).2
    rcases Bool.or_eq_true_iff.mp z with q | q
    · exact absurd (of_decide_eq_true q) hn
    · exact He.eqO_ok q
def exT (K : PySem.W.Frag) : Bool := exL K && (errB PySem.Challenge.rw_tabgrow_k06_lines_read_back.prog.main.file "BadLines" "line" K && errsB K)
abbrev valsT : List IniW := [(some ("__init__", "BadLines.__init__", defArgs iniL, .stmts (defBody iniL), defScope iniL, mainGlobals, ["__class__"], builtinsNs) : IniW)]
theorem triples_nil : TriplesOk (#[] : Array Value).toList := trivial
theorem facts {w : World} {K : PySem.W.Frag} {h : Heap} {mg : Str → Option Value} {f : Addr} (X : K.In h) (G : h.Ns mainGlobals mg) (hfa : mg ("law" : Str) = some (.ref f)) (c : He.SaysX faL fnL [] tfL exT w h K) (hv : (["BadLines"] : List Str).map (iniW K) = valsT) :
    LamX.LawAtS PySem.Challenge.rw_tabgrow_k06_lines_read_back w K CX0 13 63 "_law_script" mg f h := by
  have cd := c.t.d
  have T := txt_of X G cd
  have N := consts_of X G cd
  have N2 := consts2_of X G cd
  obtain ⟨me, mr⟩ := He.ba c.more
  obtain ⟨mr, ms⟩ := He.ba mr
  have Er := errs_of X G cd ms
  have ne0 := ne_of_ex me (r := ("read_back", none)) (by simp [lmL])
  have ne := ne_of_ex me (r := ("law", none)) (by simp [lmL])
  have nn01 := ne_of_ex2 me (r := ("read_back", none)) (q := ("law", none)) (by simp [lmL]) (by simp [lmL]) (by decide)
  have nn10 := ne_of_ex2 me (r := ("law", none)) (q := ("read_back", none)) (by simp [lmL]) (by simp [lmL]) (by decide)
  have hz : mg "zip" = none := He.free_ok X G (cd.facts (by simp [faL]))
  have hz_sorted : mg "sorted" = none := He.free_ok X G (cd.facts (by simp [faL]))
  obtain ⟨d19, a19⟩ := at_of X G cd (i := 19) (x := "is_whole") (by simp [fnL]) (by simp [faL])
  have b19 := a19.fn.binds (ps := ["value", "low", "high"]) fun _ _ _ _ _ _ us hl => match us, hl with | [_, _, _], _ => rfl
  obtain ⟨d20, a20⟩ := at_of X G cd (i := 20) (x := "is_sign") (by simp [fnL]) (by simp [faL])
  have b20 := a20.fn.binds (ps := ["sign"]) fun _ _ _ _ _ _ us hl => match us, hl with | [_], _ => rfl
  obtain ⟨d21, a21⟩ := at_of X G cd (i := 21) (x := "is_text_of_signs") (by simp [fnL]) (by simp [faL])
  have b21 := a21.fn.binds (ps := ["value", "most"]) fun _ _ _ _ _ _ us hl => match us, hl with | [_, _], _ => rfl
  obtain ⟨d22, a22⟩ := at_of X G cd (i := 22) (x := "check_lines") (by simp [fnL]) (by simp [faL])
  have b22 := a22.fn.binds (ps := ["lines"]) fun _ _ _ _ _ _ us hl => match us, hl with | [_], _ => rfl
  obtain ⟨d23, a23⟩ := at_of X G cd (i := 23) (x := "are_places") (by simp [fnL]) (by simp [faL])
  have b23 := a23.fn.binds (ps := ["value"]) fun _ _ _ _ _ _ us hl => match us, hl with | [_], _ => rfl
  obtain ⟨d24, a24⟩ := at_of X G cd (i := 24) (x := "are_left_ends") (by simp [fnL]) (by simp [faL])
  have b24 := a24.fn.binds (ps := ["value"]) fun _ _ _ _ _ _ us hl => match us, hl with | [_], _ => rfl
  obtain ⟨d25, a25⟩ := at_of X G cd (i := 25) (x := "check_lists") (by simp [fnL]) (by simp [faL])
  have b25 := a25.fn.binds (ps := ["told", "many", "fits"]) fun _ _ _ _ _ _ us hl => match us, hl with | [_, _, _], _ => rfl
  obtain ⟨d27, a27⟩ := at_of X G cd (i := 27) (x := "read_back") (by simp [fnL]) (by simp [faL])
  have b27 := a27.fn.binds (ps := ["lines", "told"]) fun _ _ _ _ _ _ us hl => match us, hl with | [_, _], _ => rfl
  obtain ⟨d28, a28⟩ := at_of X G cd (i := 28) (x := "cut") (by simp [fnL]) (by simp [faL])
  have b28 := a28.fn.binds (ps := ["line", "ends"]) fun _ _ _ _ _ _ us hl => match us, hl with | [_, _], _ => rfl
  obtain ⟨d30, a30⟩ := at_of X G cd (i := 30) (x := "_law_begun") (by simp [fnL]) (by simp [faL])
  have b30 := a30.fn.binds (ps := ["_law_script"]) fun _ _ _ _ _ _ us hl => match us, hl with | [_], _ => rfl
  obtain ⟨d31, a31⟩ := at_of X G cd (i := 31) (x := "_law_take") (by simp [fnL]) (by simp [faL])
  have b31 := a31.fn.binds (ps := ["_law_box", "_law_many"]) fun _ _ _ _ _ _ us hl => match us, hl with | [_, _], _ => rfl
  obtain ⟨d32, a32⟩ := at_of X G cd (i := 32) (x := "_law_alike") (by simp [fnL]) (by simp [faL])
  have b32 := a32.fn.binds (ps := ["_law_found", "_law_due"]) fun _ _ _ _ _ _ us hl => match us, hl with | [_, _], _ => rfl
  obtain ⟨d33, a33⟩ := at_of X G cd (i := 33) (x := "_law_told") (by simp [fnL]) (by simp [faL])
  have b33 := a33.fn.binds (ps := ["_law_work"]) fun _ _ _ _ _ _ us hl => match us, hl with | [_], _ => rfl
  obtain ⟨d34, a34⟩ := at_of X G cd (i := 34) (x := "_law_all") (by simp [fnL]) (by simp [faL])
  have b34 := a34.fn.binds (ps := ["_law_works", "_law_due"]) fun _ _ _ _ _ _ us hl => match us, hl with | [_, _], _ => rfl
  obtain ⟨d35, a35⟩ := at_of X G cd (i := 35) (x := "_law_sign") (by simp [fnL]) (by simp [faL])
  have b35 := a35.fn.binds (ps := ["_law_box"]) fun _ _ _ _ _ _ us hl => match us, hl with | [_], _ => rfl
  obtain ⟨d36, a36⟩ := at_of X G cd (i := 36) (x := "_law_line") (by simp [fnL]) (by simp [faL])
  have b36 := a36.fn.binds (ps := ["_law_box"]) fun _ _ _ _ _ _ us hl => match us, hl with | [_], _ => rfl
  obtain ⟨d37, a37⟩ := at_of X G cd (i := 37) (x := "_law_lefts") (by simp [fnL]) (by simp [faL])
  have b37 := a37.fn.binds (ps := ["_law_box", "_law_line_here"]) fun _ _ _ _ _ _ us hl => match us, hl with | [_, _], _ => rfl
  obtain ⟨d38, a38⟩ := at_of X G cd (i := 38) (x := "_law_cut") (by simp [fnL]) (by simp [faL])
  have b38 := a38.fn.binds (ps := ["_law_line_here", "_law_lefts_here"]) fun _ _ _ _ _ _ us hl => match us, hl with | [_, _], _ => rfl
  obtain ⟨d39, a39⟩ := at_of X G cd (i := 39) (x := "_law_bad") (by simp [fnL]) (by simp [faL])
  have b39 := a39.fn.binds (ps := ["_law_box", "_law_lines", "_law_told_here"]) fun _ _ _ _ _ _ us hl => match us, hl with | [_, _, _], _ => rfl
  obtain ⟨d40, a40⟩ := at_of X G cd (i := 40) (x := "law") (by simp [fnL]) (by simp [faL])
  have b40 := a40.fn.binds (ps := ["_law_script"]) fun _ _ _ _ _ _ us hl => match us, hl with | [_], _ => rfl
  have e := hfa.symm.trans a40.mg_
  cases e
  refine ⟨d40, tfL.map (He.cT K), spLaw K (tfB.map (He.cT K)) (He.cT K ("read_back", none)).2 (He.cT K ("law", none)).2, fun p hp => ?_, fun p hp => ?_, fun p hp => ?_, fun s u => ?_, fun H a ns hl _ hT hS => ⟨a, ns, rfl, fun p hp => ⟨_, hT p (subL hp), triples_nil⟩, LamX.TabS.nil (hT _ (memL (r := ("read_back", none)) (by simp [lmL]))), LamX.TabS.nil (hT _ (memL (r := ("law", none)) (by simp [lmL]))), hS, hl, fun _ => rfl⟩, fun base KB _ TB => ?_⟩
  · obtain ⟨p', hp', rfl⟩ := List.mem_map.mp hp
    exact c.empty p' hp'
  · obtain ⟨p', hp', rfl⟩ := List.mem_map.mp hp
    exact c.out p' hp'
  · obtain ⟨p', hp', rfl⟩ := List.mem_map.mp hp
    exact PySem.W.codeHd_of_K X (c.hd p' hp')
  · obtain ⟨oc, od, kV, doc, pm, an, cdv, ct, osl, e, _, _⟩ := a40.fn.ex
    rw [e]
    exact .of_eq rfl
  obtain ⟨fdI, R⟩ := raise_lines (P := PySem.Challenge.rw_tabgrow_k06_lines_read_back.prog) (w := w) (base := base) X G mr (by simpa using hv) (He.free_ok X G (cd.facts (by simp [faL]))) (by decide +kernel)
  have m21 : He.cT K ("is_text_of_signs", none) ∈ tfB.map (He.cT K) := List.mem_map.mpr ⟨_, by simp [tfB], rfl⟩
  have t21 := tab_conv (TB _ (subL m21))
  have m23 : He.cT K ("are_places", none) ∈ tfB.map (He.cT K) := List.mem_map.mpr ⟨_, by simp [tfB], rfl⟩
  have t23 := tab_conv (TB _ (subL m23))
  have g30 := ok_begun (P := PySem.Challenge.rw_tabgrow_k06_lines_read_back.prog) (w := w) (base := base) (mg := mg) T a30.fn 
  have g31 := ok_take (P := PySem.Challenge.rw_tabgrow_k06_lines_read_back.prog) (w := w) (base := base) (mg := mg)  a31.fn 
  have g35 := ok_sign (P := PySem.Challenge.rw_tabgrow_k06_lines_read_back.prog) (w := w) (base := base) (mg := mg)  a35.fn g31 a31.kp b31 a31.mg_
  have g36 := ok_line (P := PySem.Challenge.rw_tabgrow_k06_lines_read_back.prog) (w := w) (base := base) (mg := mg) T a36.fn g31 a31.kp b31 a31.mg_ g35 a35.kp b35 a35.mg_
  have g37 := ok_lefts (P := PySem.Challenge.rw_tabgrow_k06_lines_read_back.prog) (w := w) (base := base) (mg := mg) T hz_sorted a37.fn g31 a31.kp b31 a31.mg_
  have g38 := ok_cutL (P := PySem.Challenge.rw_tabgrow_k06_lines_read_back.prog) (w := w) (base := base) (mg := mg) (cs := tfB.map (He.cT K)) T a38.fn 
  have g32 := ok_alike (P := PySem.Challenge.rw_tabgrow_k06_lines_read_back.prog) (w := w) (base := base) (mg := mg) T a32.fn b32 a32.mg_ 4
  have g20 := ok_sg (P := PySem.Challenge.rw_tabgrow_k06_lines_read_back.prog) (w := w) (base := base) (mg := mg) T N a20.fn 
  have g21 := ok_text (P := PySem.Challenge.rw_tabgrow_k06_lines_read_back.prog) (w := w) (base := base) (mg := mg) T a21.fn (code_of a21) t21 m21 g20 a20.kp b20 a20.mg_
  have g22 := ok_clines (P := PySem.Challenge.rw_tabgrow_k06_lines_read_back.prog) (w := w) (base := base) (mg := mg) (cs := tfB.map (He.cT K)) T N2 a22.fn g21 a21.kp b21 a21.mg_
  have g25 := ok_clists (P := PySem.Challenge.rw_tabgrow_k06_lines_read_back.prog) (w := w) (base := base) (mg := mg) (cs := tfB.map (He.cT K)) (kl := 7) T a25.fn 
  have g28 := ok_cut (P := PySem.Challenge.rw_tabgrow_k06_lines_read_back.prog) (w := w) (base := base) (mg := mg) (cs := tfB.map (He.cT K)) T hz a28.fn 
  have g19 := ok_whole (P := PySem.Challenge.rw_tabgrow_k06_lines_read_back.prog) (w := w) (base := base) (mg := mg) T a19.fn 
  have g23 := ok_places (P := PySem.Challenge.rw_tabgrow_k06_lines_read_back.prog) (w := w) (base := base) (mg := mg) (cs := tfB.map (He.cT K)) T N2 a23.fn (code_of a23) t23 m23 g19 a19.kp b19 a19.mg_
  have g24 := ok_lends (P := PySem.Challenge.rw_tabgrow_k06_lines_read_back.prog) (w := w) (base := base) (mg := mg) (cs := tfB.map (He.cT K)) hz_sorted a24.fn g23 a23.kp b23 a23.mg_
  have g27 := ok_back (P := PySem.Challenge.rw_tabgrow_k06_lines_read_back.prog) (w := w) (base := base) (mg := mg) (cs := tfB.map (He.cT K)) T hz ne0 a27.fn (code_of a27) (TB _ (memL (r := ("read_back", none)) (by simp [lmL]))) g22 a22.kp b22 a22.mg_ g25 a25.kp b25 a25.mg_ g28 a28.kp b28 a28.mg_ g24 a24.kp b24 a24.mg_
  have g25_x := ok_clX7 (P := PySem.Challenge.rw_tabgrow_k06_lines_read_back.prog) (w := w) (base := base) (mg := mg) (cs := tfB.map (He.cT K)) T R a25.fn 
  have g19_2 := ok_whole2 (P := PySem.Challenge.rw_tabgrow_k06_lines_read_back.prog) (w := w) (base := base) (mg := mg) T a19.fn 
  have g23_2 := ok_places2 (P := PySem.Challenge.rw_tabgrow_k06_lines_read_back.prog) (w := w) (base := base) (mg := mg) (cs := tfB.map (He.cT K)) T N2 a23.fn (code_of a23) t23 m23 g19_2 a19.kp b19 a19.mg_
  have g24_3 := ok_lends3 (P := PySem.Challenge.rw_tabgrow_k06_lines_read_back.prog) (w := w) (base := base) (mg := mg) (cs := tfB.map (He.cT K)) hz_sorted a24.fn g23_2 a23.kp b23 a23.mg_
  have g27_l := ok_backL (P := PySem.Challenge.rw_tabgrow_k06_lines_read_back.prog) (w := w) (base := base) (mg := mg) (cs := tfB.map (He.cT K)) T ne0 a27.fn (code_of a27) (TB _ (memL (r := ("read_back", none)) (by simp [lmL]))) g22 a22.kp b22 a22.mg_ g25_x a25.kp b25 a25.mg_ g24_3 a24.kp b24 a24.mg_
  have g20_2 := ok_sg2 (P := PySem.Challenge.rw_tabgrow_k06_lines_read_back.prog) (w := w) (base := base) (mg := mg) T N a20.fn 
  have g21_2 := ok_text2 (P := PySem.Challenge.rw_tabgrow_k06_lines_read_back.prog) (w := w) (base := base) (mg := mg) (cs := tfB.map (He.cT K)) T a21.fn (code_of a21) t21 m21 g20_2 a20.kp b20 a20.mg_
  have g22_x := ok_clinesX (P := PySem.Challenge.rw_tabgrow_k06_lines_read_back.prog) (w := w) (base := base) (mg := mg) (cs := tfB.map (He.cT K)) T N2 R a22.fn g21_2 a21.kp b21 a21.mg_
  have g27_x := ok_backX (P := PySem.Challenge.rw_tabgrow_k06_lines_read_back.prog) (w := w) (base := base) (mg := mg) (cs := tfB.map (He.cT K))  a27.fn g22_x a22.kp b22 a22.mg_
  have g31_w := ok_takeW (P := PySem.Challenge.rw_tabgrow_k06_lines_read_back.prog) (w := w) (base := base) (mg := mg)  a31.fn 
  have g39 := ok_bad (P := PySem.Challenge.rw_tabgrow_k06_lines_read_back.prog) (w := w) (base := base) (mg := mg) (cs := tfB.map (He.cT K)) T a39.fn g31_w a31.kp b31 a31.mg_
  have g33 := ok_tells (P := PySem.Challenge.rw_tabgrow_k06_lines_read_back.prog) (w := w) (base := base) (mg := mg) (cs := tfB.map (He.cT K)) (kl := 10) T Er a33.fn 
  have g34 := ok_all (P := PySem.Challenge.rw_tabgrow_k06_lines_read_back.prog) (w := w) (base := base) (mg := mg) (by decide) a34.fn g32 a32.kp b32 a32.mg_ g33 a33.kp b33 a33.mg_
  exact ok_law T hz ne0 ne nn10 a40.fn (code_of a40) (TB _ (memL (r := ("law", none)) (by simp [lmL]))) g30 a30.kp b30 a30.mg_ g31 a31.kp b31 a31.mg_ g36 a36.kp b36 a36.mg_ g37 a37.kp b37 a37.mg_ g38 a38.kp b38 a38.mg_ g32 a32.kp b32 a32.mg_ g27 g27_l g27_x a27.kp b27 a27.mg_ g39 a39.kp b39 a39.mg_ g34 a34.kp b34 a34.mg_
end TG

namespace TG
open PySem PySem.Spec PyProof.Rows L2
abbrev R : PySem.W.OpenRow := PySem.W.OpenLaw.row PySem.Challenge.rw_tabgrow_k06_lines_read_back
abbrev hk : PySem.W.Hook := hookI 4 faL fnL [] tfL exT ["BadLines"] valsT
def ob (s : PySem.W.SharedT) : (He.AlT × Bool) × List IniW := obsI 4 faL fnL [] tfL exT ["BadLines"] (HandSHeadRun.getT s)
theorem ob_eq (s : PySem.W.SharedT) : ob s = hk.obs s.abs := obsI_eq 4 faL fnL [] tfL exT ["BadLines"] valsT (HandSHeadRun.getT_eq s)
def loose0 : List Str := [PySem.Str.ofString "GrowError", PySem.Str.ofString "BadPage", PySem.Str.ofString "BadStyle", PySem.Str.ofString "BadRow", PySem.Str.ofString "BadCell", PySem.Str.ofString "BadCount", PySem.Str.ofString "BadHand", PySem.Str.ofString "TooMuch", PySem.Str.ofString "BadLines", PySem.Str.ofString "BadStep", PySem.Str.ofString "BadStroke", PySem.Str.ofString "BadText", PySem.Str.ofString "MOST_LINES", PySem.Str.ofString "FARTHEST", PySem.Str.ofString "BLANK", PySem.Str.ofString "TILDE", PySem.Str.ofString "PERCENT", PySem.Str.ofString "is_whole", PySem.Str.ofString "is_sign", PySem.Str.ofString "is_text_of_signs"]
def loose1 : List Str := [PySem.Str.ofString "check_lines", PySem.Str.ofString "are_places", PySem.Str.ofString "are_left_ends", PySem.Str.ofString "check_lists", PySem.Str.ofString "read_back", PySem.Str.ofString "cut", PySem.Str.ofString "_law_begun", PySem.Str.ofString "_law_take", PySem.Str.ofString "_law_alike", PySem.Str.ofString "_law_told", PySem.Str.ofString "_law_all", PySem.Str.ofString "_law_sign", PySem.Str.ofString "_law_line", PySem.Str.ofString "_law_lefts", PySem.Str.ofString "_law_cut", PySem.Str.ofString "_law_bad"]
def looseL : List Str := loose0 ++ loose1
theorem run (w : World) : HandSHeadRun.RunEq R (PySem.W.view R.prog [40]) hk ob 4000 looseL w := by
  intro os
  kernel_rfl
end TG

open PySem PySem.W PySem.Calls PyProof.Rows
theorem PySem.Challenge.cw_tabgrow_k06_lines_read_back_holds : PySem.Challenge.rw_tabgrow_k06_lines_read_back.Holds := by
  w_on; o_law
  refine HandSHeadRun.head_any (r := OpenLaw.row PySem.Challenge.rw_tabgrow_k06_lines_read_back) (q := view (OpenLaw.row PySem.Challenge.rw_tabgrow_k06_lines_read_back).prog [40]) (H := TG.hk) (ob := TG.ob) (M := 4000) (loose := TG.looseL) (d := HandSHeadRun.topDef (OpenLaw.row PySem.Challenge.rw_tabgrow_k06_lines_read_back).prog 40) (kwd := []) TG.ob_eq
    (by kernel_rfl) (fun s => by kernel_rfl) TG.run (by kernel_rfl) (by kernel_rfl) (by kernel_rfl) (by rfl) (by first | assumption | decide +kernel) (by decide +kernel) ⟨rfl, rfl, rfl, rfl, rfl, by decide +kernel⟩ ?hw ?hc
  case hw => w_witness2
  case hc =>
    refine LamX.walk_ofTsE (l := PySem.Challenge.rw_tabgrow_k06_lines_read_back) (n := 63) (k := 13) (x := "_law_script") (CX := fun _ => L2.CX0) rfl (by decide) (by kernel_rfl) ⟨rfl, by decide, by decide⟩ ?F (fun _ _ _ _ _ z => z)
    intro w mg fa h Y G hmg0
    obtain ⟨K, KX, c, hv⟩ := Y
    have hmg : mg ("law" : PySem.Str) = some (.ref fa) := by
      have e : (HandSHeadRun.topDef (OpenLaw.row PySem.Challenge.rw_tabgrow_k06_lines_read_back).prog 40).name = ("law" : PySem.Str) := by kernel_rfl
      rw [← e]
      exact hmg0
    exact ⟨K, KX, TG.facts KX G hmg c hv⟩

