import PyProof.Rows.All
import Wide.All
import OpenK.AllK
import Wide.FinOn
import HandS.ForMost
import HandS.Exc
import HandS.GenList
import HandS.AnyAll
import HandS.IsInst
import HandS.StrMore
import HandS.Flow
import HandS.TupAny
import HandS.EndTab
import HandS.Walk
import HandS.Lambda
import HandS.Codes
import KE.KIntText
import KE.KxText
import KE.KStateDown
import HandS.Head0
import HandS.Head1
import HandS.Head2
import HandS.HeadEnd
import HandS.HeadHook1
import HandS.HeadHook2
import HandS.HeadHook3
import HandS.HeadHook4
import HandS.HeadWalk
import PyProof.WalkInts
import PyProof.ZipIter
import HandS.Zip
import HandS.Nested
import HandS.GenOver
import KE.KLam
import PySem.Challenge.RW_tabgrow_k13_whole_in_whatever_order_it_i
import HandS.Conv
import HandS.ExcField
import HandS.ExcInit
import HandS.ExcIs
import HandS.ExcOwn
import HandS.FStr
import HandS.Style
import HandS.TryOnly
import HandS.WordsExc
import KE.KExcIs
import KE.KExcSuper
import KE.KSuper
import KE.KSuperObj
import HandS.Iter
import KE.GoesEnum
import KE.KDictZip
import KE.KTurns
import HandS.Deep
import HandS.TryMany
import HandS.Dict
import HandS.Small
import HandS.More
import HandS.TupMul
set_option Elab.async false
set_option linter.all false
set_option maxRecDepth 1000000
set_option maxHeartbeats 20000000
namespace Gx
open PySem PySem.Spec PyProof.Rows L2 GenW
abbrev gE (X : Cx) (sc : Scope) (C : Addr) (code : Value) : Env :=
  genEnv sc (cloFrom X.env.cells sc.names []) C code builtinsNs X.env
/-- the context of the element -/
def gCx (X : Cx) (A : Around) (sc : Scope) (x : Str) (code : Value) (s4 : Shared) (H4 : Hp) (fp : List Addr) : Cx where
  prog := X.prog
  w := X.w
  K := X.K
  mg := X.mg
  base := X.base
  A := A.deeper (gE X sc s4.heap.objs.size code)
  N := [x]
  s_0 := s4
  H_0 := H4
  env := gE X sc s4.heap.objs.size code
  outer := X.stack
  stack := gE X sc s4.heap.objs.size code :: X.stack
  ex := fp
  fn := fun _ => false
  calm := true
  pn := []
  xe := fun _ _ => False
/-- the scope of a generator expression that captures nothing -/
structure GSc (sc : Scope) (x : Str) : Prop where
  kind : sc.kind = .function
  co : sc.isCoroutine = false
  cell : ∀ y ∈ sc.names, y.2 ≠ .cell
  free : ∀ y ∈ sc.names, y.2 ≠ .free
  dot : sc.names.lookup (".0" : Str) = some NameKind.local
  loc : sc.names.lookup x = some .local
section
variable {X : Cx} {pins : List (Addr × Obj)} {σ : L2.St} {H : Hp} {s : Shared} {A : Around} {sc : Scope} {x : Str} {code : Value} {fp : List Addr}
theorem no_cells (S : GSc sc x) (cells : List (Str × Addr)) {y : Str} {c : Addr} (h : (cloFrom cells sc.names []).lookup y = some c) : False := by
  rcases cloFrom_mem (PySem.mem_of_lookup h) with z | ⟨z, _⟩
  · cases z
  · exact S.free _ z rfl
theorem gx_inv (I : Inv X pins σ H s) (S : GSc sc x) (hd : A.handled = none) (hfr : A.frames = some X.stack) (hf : ∀ b ∈ fp, FpOk X pins H b)
    (hlt : ∀ b ∈ fp, b < s.heap.objs.size) {s5 : Shared} {m : Str → Option Value} (os : s5.os = s.os) (bare : AllBare s5.gens)
    (keep : ∀ b o, s.heap.get? b = some o → s5.heap.get? b = some o) (hns : s5.heap.Ns s.heap.objs.size m) :
    Inv (gCx X A sc x code s H fp) [] [none] H s5 := by
  have nc : ∀ {y : Str} {c : Addr}, (gCx X A sc x code s H fp).env.cells.lookup y = some c → False := fun {y c} h => no_cells S _ h
  refine ⟨⟨I.ok.mod, S.kind, I.ok.glob, rfl, Nat.le_refl _, fun y z c e _ => (nc e).elim, fun y hy => ?_, fun y c _ e => (nc e).elim, fun _ => hd,
      Around.frames_deeper hfr, .inr ⟨rfl, rfl⟩, fun b hb => ⟨Nat.ne_of_lt (hlt b hb), fun y c e => (nc e).elim⟩, I.bs, Nat.le_trans I.ok.bsz I.sz,
      fun b o e hb => ?_, fun b hb z => ?_, I.stack, I.stkFree⟩,
    os, bare, Un.kept keep, ⟨m, hns, fun i y v _ e2 _ => ?_⟩, fun y c e => (nc e).elim, I.hok.fresh (Nat.le_refl _), fun y c e => (nc e).elim,
    fun p hp => ?_, I.hok.kept keep, rfl⟩
  · rcases hy with z | z
    · exact absurd rfl (S.cell _ (PySem.mem_of_lookup (show sc.names.lookup y = some .cell from z)))
    · exact absurd rfl (S.free _ (PySem.mem_of_lookup (show sc.names.lookup y = some .free from z)))
  · rcases (hf b hb).2.2.2.1 with z | z
    · exact I.ok.noex b o e z
    · exact absurd (Nat.lt_of_lt_of_le (Heap.lt_size e) (Nat.le_trans I.ok.bsz z)) (Nat.lt_irrefl _)
  · rcases List.mem_cons.mp (I.stkSub b z) with q | q
    · exact (hf b hb).2.1 q
    · exact (hf b hb).2.2.1 q
  · match i, e2 with
    | 0, e2 => cases e2
    | i + 1, e2 => simp at e2
  · exact absurd (show p ∈ ([] : List (Addr × Obj)) from hp) (by simp)
/-- only the generators' states differ -/
theorem regens {s' : Shared} (I : Inv X pins σ H s) (os : s'.os = s.os) (hh : ∀ b o, s.heap.get? b = some o → s'.heap.get? b = some o) (hb : AllBare s'.gens) : Inv X pins σ H s' :=
  I.call' (ch := []) os (Un.kept hh) (I.hok.kept hh) hb fun b z => by simp at z
/-- the consumer's own list, if it has one -/
def Held (So : Option Addr) (Rel : Array Value → Prop) (ps : List (Addr × Obj)) : Prop :=
  match So with
  | none => ps = []
  | some S => ∃ acc c, ps = [(S, lstObj acc c)] ∧ Rel acc
structure Woke (So : Option Addr) (Rel : Array Value → Prop) (s s' : Shared) : Prop where
  os : s'.os = s.os
  bare : AllBare s'.gens
  keep : ∀ b o, So ≠ some b → s.heap.get? b = some o → s'.heap.get? b = some o
  own : ∀ S, So = some S → ∃ acc' c', s'.heap.get? S = some (lstObj acc' c') ∧ Rel acc'
theorem woken {Z : Cx} {q ps : List (Addr × Obj)} {So : Option Addr} {Rel Rel' : Array Value → Prop} {s' : Shared} (I : Inv Z (q ++ ps) σ H s) (hps : Held So Rel ps) (hq : ∀ p ∈ Z.pn ++ q, So ≠ some p.1)
    (hS : ∀ S, So = some S → Z.s_0.heap.objs.size ≤ S ∧ S ≠ Z.env.locals ∧ ∀ y c, Z.env.cells.lookup y = some c → c ≠ S) (k : Woke So Rel' s s') :
    ∃ ps', Held So Rel' ps' ∧ Inv Z (q ++ ps') σ H s' ∧ ∀ p ∈ ps', s'.heap.get? p.1 = some p.2 := by
  cases So with
  | none =>
    have e : ps = [] := hps
    subst e
    exact ⟨[], rfl, regens I k.os (fun b o e => k.keep b o (by simp) e) k.bare, fun p hp => by simp at hp⟩
  | some S =>
    obtain ⟨acc, c, e, _⟩ := hps
    subst e
    obtain ⟨h1, h2, h3, h4, _⟩ := I.pin (S, lstObj acc c) (List.mem_append_right _ (List.mem_append_right _ (List.mem_singleton.mpr rfl)))
    obtain ⟨acc', c', e', hR⟩ := k.own S rfl
    obtain ⟨g1, g2, g3⟩ := hS S rfl
    have I0 : Inv Z q σ H s := I.pins_of fun p hp => I.pin p (List.mem_append_right _ (List.mem_append_left _ hp))
    have nS : ∀ b u, H b = some u → b ≠ S := fun b u e z => by rw [z, h2] at e; cases e
    have kp : ∀ b o, b ≠ S → s.heap.get? b = some o → s'.heap.get? b = some o := fun b o hb e => k.keep b o (fun z => hb (Option.some.inj z).symm) e
    have ni : ∀ b : Addr, b ∉ [S] → b ≠ S := fun b hb e => hb (by rw [e]; exact List.mem_singleton.mpr rfl)
    have J : Inv Z q σ H s' := by
      refine I0.call' (ch := [S]) k.os ⟨fun b o e _ _ hx => kp b o (ni b hx) e, fun b o e _ _ hx => ⟨o.slots, kp b o (ni b hx) e⟩, fun _ _ _ n _ => n, fun b o e hx => ⟨o, kp b o (ni b hx) e⟩,
        fun _ _ e => e, fun _ _ _ e => e, fun _ _ e => ⟨#[], by rw [e]; simp⟩⟩ (fun b u e => ?_) k.bare fun b hb => ?_
      · refine (I0.hok b u e).stay (fun d v hd z => kp d v ?_ z) (fun _ z => z) fun _ _ z => z
        rcases hd with z | z
        · rw [z]; exact nS b u e
        · exact nS d _ z
      · have eb : b = S := List.mem_singleton.mp hb
        subst eb
        exact ⟨.inr g1, g2, g3, fun p hp z => hq p hp (by rw [z])⟩
    refine ⟨[(S, lstObj acc' c')], ⟨acc', c', rfl, hR⟩, J.pins_of fun p hp => ?_, fun p hp => by rw [List.mem_singleton.mp hp]; exact e'⟩
    rcases List.mem_append.mp hp with z | z
    · exact J.pin p (List.mem_append_right _ z)
    · rw [List.mem_singleton.mp z]
      exact ⟨e', h2, h3, h4, fun v z => by cases z⟩
abbrev WT := Nat → List V → Hp → Prop
/-- an item is handed out -/
def GYx (Z : Cx) (q : List (Addr × Obj)) (So : Option Addr) (Rel : List V → Array Value → Prop) (W : WT) (Ny : Nat → List V → V → Hp → Prop) : Protocol := fun n s₀ v s1 kap =>
  ∃ m ys y σ H ps, m < n + 1 ∧ RelV y v ∧ Held So (Rel ys) ps ∧ (∀ p ∈ ps, s₀.heap.get? p.1 = some p.2) ∧ Inv Z (q ++ ps) σ H s1 ∧ Ny m ys y H ∧ ∀ s', Woke So (Rel (ys ++ [y])) s1 s' → ∀ m', m' < m → W m' (ys ++ [y]) H → kap (.send .none) s'
def GFx (Z : Cx) (q : List (Addr × Obj)) (So : Option Addr) (Rel : List V → Array Value → Prop) (Ns : List V → Hp → Prop) (s₀ s1 : Shared) : Prop :=
  ∃ ys σ H ps, Held So (Rel ys) ps ∧ (∀ p ∈ ps, s₀.heap.get? p.1 = some p.2) ∧ Inv Z (q ++ ps) σ H s1 ∧ Ns ys H
abbrev GRx (Z : Cx) (q : List (Addr × Obj)) (So : Option Addr) (Rel : List V → Array Value → Prop) (Ns : List V → Hp → Prop) : GenEnd := fun n s₀ r s₁ =>
  ((r = .ok (.ret .none) ∨ r = .ok .next) ∧ (fun (_ : Nat) (t : Shared) s => GFx Z q So Rel Ns t s) n s₀ s₁) ∨ ∃ e, r = .error e ∧ (fun (_ : Value) (_ : Shared) => False) e s₁
theorem seg_turns {elt iter : Expr} {px : Pos} {pos : Pos} {it : Addr} {J : It} {tn : Nat → Heap → Prop} {te : TE} {W : WT} {Ny : Nat → List V → V → Hp → Prop} {Ns : List V → Hp → Prop} {s4 : Shared} {H4 : Hp}
    {q : List (Addr × Obj)} {So : Option Addr} {Rel : List V → Array Value → Prop}
    (S : GSc sc x) (T : Turn X.prog X.w X.K (.Name x px) J fp it tn)
    (stat : ∀ b ∈ fp, b ≠ s4.heap.objs.size ∧ b ∉ frs X.stack ∧ (∀ p ∈ q, p.1 ≠ b) ∧ So ≠ some b)
    (hq : ∀ p ∈ q, So ≠ some p.1) (hS : ∀ S', So = some S' → s4.heap.objs.size < S')
    (he : PE (gCx X A sc x code s4 H4 fp) elt te)
    (step : ∀ m ys H, W m ys H → (J.stop ys.length H ∧ Ns ys H) ∨ (J.go ys.length H ∧ ∀ v H', J.yld ys.length H v H' → te [some v] H' (Ny m ys))) :
    ∀ (n m : Nat) (ys : List V) (s₀ s : Shared) (σ : L2.St) (H : Hp) (ps : List (Addr × Obj)), m < n → Held So (Rel ys) ps → (∀ p ∈ ps, s₀.heap.get? p.1 = some p.2) → W m ys H → Inv (gCx X A sc x code s4 H4 fp) (q ++ ps) σ H s → tn ys.length s.heap → (∀ b ∈ fp, H b = none) →
      Seg (model X.prog X.w) A (GRx (gCx X A sc x code s4 H4 fp) q So Rel Ns) (GYx (gCx X A sc x code s4 H4 fp) q So Rel W Ny) n s₀
        (.compLoop (.GeneratorExp elt [⟨.Name x px, iter, [], 0⟩] sc pos) 0 (.ref it) .none (gE X sc s4.heap.objs.size code))
        ((model X.prog X.w).den (.compLoop (.GeneratorExp elt [⟨.Name x px, iter, [], 0⟩] sc pos) 0 (.ref it) .none (gE X sc s4.heap.objs.size code))) [] s := by
  have nc : ∀ {y : Str} {c : Addr}, (gCx X A sc x code s4 H4 fp).env.cells.lookup y = some c → False := fun {y c} h => no_cells S _ h
  intro n
  induction n with
  | zero => intro m _ _ _ _ _ _ hm; exact absurd hm (Nat.not_lt_zero _)
  | succ n ih =>
    intro m ys s₀ s σ H ps hm hps hs0 hW I htn hfn
    have fok : ∀ {H' : Hp}, (∀ b ∈ fp, H' b = none) → ∀ b ∈ fp, FpOk (gCx X A sc x code s4 H4 fp) (q ++ ps) H' b := fun {H'} hn b hb => by
      obtain ⟨a1, a2, a3, a4⟩ := stat b hb
      refine ⟨hn b hb, a1, a2, .inl hb, fun y c e => (nc e).elim, fun p hp => ?_⟩
      rcases List.mem_append.mp (show p ∈ q ++ ps from hp) with z | z
      · exact a3 p z
      · cases So with
        | none =>
          have e : ps = [] := hps
          rw [e] at z
          simp at z
        | some S' =>
          obtain ⟨acc, c, e, _⟩ := hps
          rw [e] at z
          rw [List.mem_singleton.mp z]
          exact fun w => a4 (by rw [← w])
    show Seg _ A _ _ _ s₀ _ ((compTurn (.GeneratorExp elt [⟨.Name x px, iter, [], 0⟩] sc pos) 0 (.ref it) .none (gE X sc s4.heap.objs.size code)).onRaise (leaving (gE X sc s4.heap.objs.size code))) [] s
    rw [compTurn_gen, Sem.onRaise_eq_wrap]
    refine seg_bind_wrap (wpAny_standAt ?_)
    rcases step m ys H hW with ⟨stop, qn⟩ | ⟨go, st⟩
    · refine seg_bind_wrap (thn (T.done (gCx X A sc x code s4 H4 fp) rfl rfl rfl rfl ys.length (q ++ ps) s σ H _ I (fok hfn) htn stop) fun r s5 ⟨hr, I5⟩ => ?_)
      subst hr
      exact seg_end (.ok .next) (.inl ⟨.inr rfl, ys, σ, H, ps, hps, hs0, I5, qn⟩)
    · refine seg_bind_wrap (thn (T.item (gCx X A sc x code s4 H4 fp) rfl rfl rfl rfl ys.length (q ++ ps) s σ H _ I (fok hfn) htn go) fun r s5 ⟨u, hr, h5⟩ => ?_)
      subst hr
      refine seg_bind_wrap (thn h5 fun _ s6 ⟨v, H6, I6, r6, y6, tn6, fn6⟩ => ?_)
      have I6' := I6.pinned (fok fn6) (T.obj _ _ tn6)
      have pg : PG (gCx X A sc x code s4 H4 fp) (.Name x px) (gName 0) := pg_name (i := 0) (List.nodup_cons.mpr ⟨by simp, List.nodup_nil⟩) rfl (.inl S.loc) (.inr S.loc)
      have eσ : σ.set 0 (some v) = [some v] := by
        have hl : σ.length = 1 := I.len
        match σ, hl with
        | [_], _ => rfl
      refine seg_bind_wrap (wpAny_mono (pg.run _ s6 σ H6 v u (fun σ' H' => σ' = [some v] ∧ H' = H6) I6' r6 ⟨eσ, rfl⟩) (fun _ s7 h7 => ?_) fun _ _ z => z.elim)
      obtain ⟨σ7, H7, I7, eσ7, eH7⟩ := h7
      subst eσ7 eH7
      simp only [List.forIn_nil]
      refine seg_bind_wrap (wpAny_pure ?_)
      simp only [if_true]
      have hy : ∀ v, yieldOut (gE X sc s4.heap.objs.size code) v = yieldValue v := fun v => by
        simp only [yieldOut, show (gE X sc s4.heap.objs.size code).scope.isCoroutine = false from S.co, Bool.false_eq_true, if_false]
      simp only [hy]
      rw [Sem.bind_eq_wrap', Sem.bind_eq_wrap', Sem.wrap_wrap, Sem.wrap_wrap]
      refine seg_wrap (wpAny_mono (he.run _ s7 [some v] H7 _ I7 (st v H7 y6)) (fun w s8 h8 => ?_) fun _ _ z => z.elim)
      obtain ⟨y, H8, I8, r8, ny⟩ := h8
      have fn8 : ∀ b ∈ fp, H8 b = none := fun b hb => by
        obtain ⟨o, e, d⟩ := T.obj _ _ tn6 b hb
        exact (I8.pin (b, o) (List.mem_append_right _ (List.mem_append_right _ (mem_pinsAt hb e)))).2.1
      have tn8 : tn (ys.length + 1) s8.heap := T.keep _ _ _ tn6 fun b hb o e => (I8.pin (b, o) (List.mem_append_right _ (List.mem_append_right _ (mem_pinsAt hb e)))).1
      refine seg_at (seg_yield rfl rfl rfl ⟨m, ys, y, [some v], H8, ps, hm, r8, hps, hs0, I8.unpinned, ny, fun s9 wk m' hm' w' => ?_⟩)
      obtain ⟨ps', hps', I9, e9⟩ := woken I8.unpinned hps (fun p hp => hq p hp) (fun S' e => ⟨Nat.le_of_lt (hS S' e), Nat.ne_of_gt (hS S' e), fun y c e => (nc e).elim⟩) wk
      refine seg_again rfl (ih m' (ys ++ [y]) s9 s9 [some v] H8 ps' (by omega) hps' e9 w' I9 ?_ fn8)
      rw [List.length_append, List.length_singleton]
      exact T.keep _ _ _ tn8 fun b hb o e => wk.keep b o (stat b hb).2.2.2 e
end
end Gx
namespace Gx
open PySem PySem.Spec PyProof.Rows L2 GenW
section
variable {X : Cx} {pins : List (Addr × Obj)} {σ : L2.St} {H : Hp} {s : Shared} {sc : Scope} {x : Str}
theorem seg_begin {A : Around} {elt iter : Expr} {px pos : Pos} {it : Addr} {J : It} {fp : List Addr} {tn : Nat → Heap → Prop} {cenv : Env} {R : GenEnd} {Y : Protocol} {n : Nat} {s₀ : Shared}
    (T : Turn X.prog X.w X.K (.Name x px) J fp it tn) (ht : tn 0 s.heap)
    (loop : Seg (model X.prog X.w) A R Y n s₀ (.compLoop (.GeneratorExp elt [⟨.Name x px, iter, [], 0⟩] sc pos) 0 (.ref it) .none cenv) ((model X.prog X.w).den (.compLoop (.GeneratorExp elt [⟨.Name x px, iter, [], 0⟩] sc pos) 0 (.ref it) .none cenv)) [] s) :
    Seg (model X.prog X.w) A R Y n s₀ (.compStart (.GeneratorExp elt [⟨.Name x px, iter, [], 0⟩] sc pos) 0 (.ref it) .none cenv) ((model X.prog X.w).den (.compStart (.GeneratorExp elt [⟨.Name x px, iter, [], 0⟩] sc pos) 0 (.ref it) .none cenv)) [] s := by
  show Seg _ A R Y n s₀ _ ((compStart (.GeneratorExp elt [⟨.Name x px, iter, [], 0⟩] sc pos) 0 (.ref it) .none cenv).onRaise (leaving cenv)) [] s
  unfold compStart
  rw [Sem.onRaise_eq_wrap]
  show Seg _ A R Y n s₀ _ ((ask >>= _).wrap _ _ _ _) [] s
  refine seg_bind_wrap (wpAny_askSetting ?_)
  split
  · exact seg_again rfl loop
  · first
      | exact seg_bind_wrap (wpAny_rule (seg_bind_wrap (wpAny_standAt (seg_bind_wrap (T.self _ 0 s _ _ ht (seg_again rfl loop))))))
      | (refine seg_bind_wrap (wpAny_rule ?_); show Seg _ A R Y n s₀ _ ((standAt iter.pos >>= _).wrap _ _ _ _) [] s; exact seg_bind_wrap (wpAny_standAt (seg_bind_wrap (T.self _ 0 s _ _ ht (seg_again rfl loop)))))
/-- the reading of a generator expression: W the state between two turns, by a measure, what was handed out, the heap -/
def tGen (P : Addr) (wi : TI) (te : TE) (NyOf : WT → Nat → List V → V → Hp → Prop) (Ns : List V → Hp → Prop) : L2.St → Hp → Prop := fun σ H =>
  wi σ H fun J H1 => GxR.TabG H1 P ∧ ∀ H2, GxR.Tabbed P H1 H2 → ∃ W : WT, (∃ m, W m [] H2) ∧ ∀ m ys H, W m ys H →
    (J.stop ys.length H ∧ Ns ys H) ∨ (J.go ys.length H ∧ ∀ v H', J.yld ys.length H v H' → te [some v] H' (NyOf W m ys))
theorem code_step {A : Around} {E : Value → Shared → Prop} {Q : Value → Shared → Prop} {c P : Addr} {gpos : Pos} (I : Inv X pins σ H s) (TB : GxR.TabB X.base X.mg c P) (hcode : X.env.code = .ref c) (hT : GxR.TabG H P)
    (h : ∀ (code : Value) (H3 : Hp) (s3 : Shared), GxR.Tabbed P H H3 → Inv X pins σ H3 s3 → (∀ b o, b ≠ P → s.heap.get? b = some o → s3.heap.get? b = some o) → Q code s3) :
    wpAny (model X.prog X.w) A (genexprCode X.env gpos (X.env.qual ++ "<genexpr>") sc) Q E s := by
  obtain ⟨ps, hP, ht⟩ := id hT
  have hPs : s.heap.get? P = some { cls := .none, data := .fields ps } := I.hok P _ hP
  have cd : PySem.W.CodeHd s.heap c P := TB.code.keeps I.bk
  cases hf : codeAmong gpos ps.toList with
  | none =>
    refine wpAny_genexprCodeX hcode (cd.code hPs ht) (cd.tab hPs) hf fun c' h' tk hx hge hlt hco' _ htab' _ => ?_
    obtain ⟨o1, vs, f1, tf, fl, tg, inF, tx, tt, op, _, _, _, _, _, _, _, _, _, htr, _⟩ := hco'
    have J := GxR.inv_tab (t' := tk) (g' := s.gens) (d' := s.drawn) I hP (fun b o hb e => hx b o hb e) htab'.2 I.bare
    exact h _ _ _ ⟨⟨_, upd_same, htr⟩, fun b hb => upd_ne hb⟩ J fun b o hb e => hx b o hb e
  | some cv =>
    refine wpAny_genexprCode_hit hcode (cd.code hPs ht) hf ?_
    exact h _ H s ⟨hT, fun _ _ => rfl⟩ I fun _ _ _ e => e
end
end Gx
namespace Gx
open PySem PySem.Spec PyProof.Rows L2 GenW
section
variable {X : Cx} {pins : List (Addr × Obj)} {σ : L2.St} {H : Hp} {s : Shared} {sc : Scope} {x : Str}
/-- a generator that has not begun, at a in s5 -/
def Begun1 (X : Cx) (pins : List (Addr × Obj)) (σ : L2.St) (k : Nat) (Rel : List V → Array Value → Prop) (NyOf : WT → Nat → List V → V → Hp → Prop) (Ns : List V → Hp → Prop) (a : Addr) (s5 : Shared) : Prop :=
  ∃ (g : Nat) (c : Code) (H4 : Hp), s5.heap.IsGen a g ∧ s5.gens[g]? = some (.fresh c) ∧ Inv X pins σ H4 s5 ∧ a < s5.heap.objs.size ∧
    ∀ (A : Around) (So : Option Addr) (s6 : Shared), Room (k + 1) A → A.frames = some X.stack → (∀ S, So = some S → s5.heap.objs.size ≤ S ∧ ∃ acc c, s6.heap.get? S = some (lstObj acc c) ∧ Rel [] acc) →
      (∀ b o, s5.heap.get? b = some o → s6.heap.get? b = some o) → s6.os = s5.os → AllBare s6.gens →
      ∃ (Z : Cx) (q : List (Addr × Obj)) (W : WT) (m0 : Nat),
        (∀ ps σz Hz s7, Inv Z (q ++ ps) σz Hz s7 → Inv X pins σ Hz s7 ∧ s7.heap.IsGen a g) ∧
        Seg (model X.prog X.w) A (GRx Z q So Rel Ns) (GYx Z q So Rel W (NyOf W)) (m0 + 1) s6 c ((model X.prog X.w).den c) [] s6
theorem gx_make {elt iter : Expr} {px gpos : Pos} {c P : Addr} {wi : TI} {te : TE} {k j : Nat} {Rel : List V → Array Value → Prop} {NyOf : WT → Nat → List V → V → Hp → Prop} {Ns : List V → Hp → Prop} {Q' : Value → Shared → Prop}
    (hr : Room j X.A) (TB : GxR.TabB X.base X.mg c P) (hcode : X.env.code = .ref c) (S : GSc sc x) (hi : PI X (.Name x px) iter wi)
    (he : ∀ (A : Around) (code : Value) (s4 : Shared) (H4 : Hp) (fp : List Addr), Room k (A.deeper (gE X sc s4.heap.objs.size code)) → PE (gCx X A sc x code s4 H4 fp) elt te)
    (hs : ∀ v, genFold iter X.env v = pure v) (I : Inv X pins σ H s) (h : tGen P wi te NyOf Ns σ H)
    (hQ : ∀ a s5, Begun1 X pins σ k Rel NyOf Ns a s5 → Q' (.ref a) s5) :
    wpAny (model X.prog X.w) X.A (eval (.GeneratorExp elt [⟨.Name x px, iter, [], 0⟩] sc gpos) X.env) Q' X.xe s := by
  refine wpAny_GeneratorExp_make S.co (closure_ok fun y hy z => absurd z (S.free y hy)) S.cell S.dot S.kind hr.depth ?_ hs
  refine thn (hi.run pins s σ H _ I h) fun xv s1 h1 => thn h1 fun itv s2 h2 => ?_
  obtain ⟨it, fp, tn, J, H2, e, I2, T, st2, f2, hT, hW⟩ := h2
  subst e
  refine ⟨I2.nolimit, code_step I2 TB hcode hT fun code H3 s3 hTb I3 kp3 => ?_⟩
  obtain ⟨bm, ob, e1, e2, e3, e4, e5, e6, e7, e8⟩ := TB.bm
  refine wpAny_builtinsFor (m := X.mg) (by rw [I3.ok.glob]; exact I3.mod.glob.keeps I3.bk) e1 e2 (I3.bk _ _ e5) e6 e7 e8 fun h' hn' hs' => ?_
  obtain ⟨W, ⟨m0, w0⟩, step⟩ := hW H3 hTb
  have hTP : H2 P ≠ none := by
    obtain ⟨ps, z, _⟩ := hT
    rw [z]; exact fun q => nomatch q
  have nP : ∀ b ∈ fp, b ≠ P := fun b hb z => hTP (by rw [← z]; exact (f2 b hb).1)
  have f3 : ∀ b ∈ fp, FpOk X pins H3 b := fun b hb => ⟨(hTb.2 b (nP b hb)).trans (f2 b hb).1, (f2 b hb).2⟩
  have tn3 : tn 0 s3.heap := T.keep _ _ _ st2 fun b hb o q => kp3 b o (nP b hb) q
  have lt3 : ∀ b ∈ fp, b < s3.heap.objs.size := fun b hb => by
    obtain ⟨o, q, _⟩ := T.obj _ _ tn3 b hb
    exact Heap.lt_size q
  have hsz : h'.objs.size = s3.heap.objs.size + 1 := by rw [hs'.1, Heap.size_push]
  have kp' : ∀ b o, s3.heap.get? b = some o → h'.get? b = some o := fun b o q => hs'.extBut b o (Nat.ne_of_lt (Heap.lt_size q)) (Heap.get?_push_of_some _ q)
  refine hQ _ _ ⟨s3.gens.size, _, H3, ⟨_, _, _, Heap.get?_push_size _ rfl, rfl, rfl, rfl⟩, Array.getElem?_push_size .., ?_, ?_, fun A So s6 hrA hfr hSo kp6 os6 b6 => ?_⟩
  · exact regens I3 rfl (fun b o q => Heap.get?_push_of_some _ (kp' b o q)) (AllBare.push I3.bare rfl)
  · show h'.objs.size < (h'.push _).objs.size
    rw [Heap.size_push]; exact Nat.lt_succ_self _
  · have kp36 : ∀ b o, s3.heap.get? b = some o → s6.heap.get? b = some o := fun b o q => kp6 b o (Heap.get?_push_of_some _ (kp' b o q))
    have hns6 : s6.heap.Ns s3.heap.objs.size (fun y => if y = ".0" then some (.ref it) else none) := by
      obtain ⟨o, es, ep, ho, r⟩ := hn'
      exact ⟨o, es, ep, kp6 _ _ (Heap.get?_push_of_some _ ho), r⟩
    have IZ := gx_inv (code := code) (A := A) I3 S hrA.hd hfr f3 lt3 (s5 := s6) os6 b6 kp36 hns6
    have big : ∀ b, s3.heap.objs.size < b → H3 b = none ∧ b ≠ s3.heap.objs.size ∧ b ∉ frs X.stack := fun b hb => by
      refine ⟨I3.hok.fresh (Nat.le_of_lt hb), Nat.ne_of_gt hb, fun z => ?_⟩
      rcases List.mem_cons.mp (I3.stkSub b z) with w | w
      · exact absurd (Nat.lt_trans (by rw [w]; exact I3.lt) hb) (Nat.lt_irrefl _)
      · exact I3.nofs (Nat.le_of_lt hb) w
    have ha : s3.heap.objs.size < h'.objs.size := by rw [hsz]; exact Nat.lt_succ_self _
    have hga := kp6 h'.objs.size _ (Heap.get?_push_size _ rfl)
    have hSb : ∀ S', So = some S' → h'.objs.size < S' := fun S' z => by
      have q := (hSo S' z).1
      have q' : (h'.push _).objs.size ≤ S' := q
      rw [Heap.size_push] at q'
      exact q'
    obtain ⟨ps, hps, IZ2⟩ : ∃ ps, Held So (Rel []) ps ∧ Inv (gCx X A sc x code s3 H3 fp) ([(h'.objs.size, _)] ++ ps) [none] H3 s6 := by
      cases So with
      | none =>
        refine ⟨[], rfl, IZ.pins_of fun p hp => ?_⟩
        rw [List.append_nil] at hp
        rw [List.mem_singleton.mp hp]
        obtain ⟨b1, b2, b3⟩ := big _ ha
        exact ⟨hga, b1, b2, b3, fun v z => by cases z⟩
      | some S' =>
        obtain ⟨_, acc, cc, q2, hR⟩ := hSo S' rfl
        refine ⟨[(S', lstObj acc cc)], ⟨acc, cc, rfl, hR⟩, IZ.pins_of fun p hp => ?_⟩
        rcases List.mem_append.mp hp with z | z
        · rw [List.mem_singleton.mp z]
          obtain ⟨b1, b2, b3⟩ := big _ ha
          exact ⟨hga, b1, b2, b3, fun v z => by cases z⟩
        · rw [List.mem_singleton.mp z]
          obtain ⟨b1, b2, b3⟩ := big _ (Nat.lt_trans ha (hSb S' rfl))
          exact ⟨q2, b1, b2, b3, fun v z => by cases z⟩
    have hSne : ∀ b, b ≤ h'.objs.size → So ≠ some b := fun b hb z => absurd (Nat.lt_of_lt_of_le (hSb b z) hb) (Nat.lt_irrefl _)
    refine ⟨gCx X A sc x code s3 H3 fp, [(h'.objs.size, { cls := .type "generator", data := .fields #[.int s3.gens.size 0, .str "<genexpr>" (s3.toks + 1), .str (X.env.qual ++ "<genexpr>") (s3.toks + 1 + 1)] })], W, m0, fun ps σz Hz s7 J7 => ⟨?_, ?_⟩, ?_⟩
    · refine I3.call' (ch := fp) J7.os J7.base J7.hok J7.bare fun b hb => ?_
      obtain ⟨_, a2, _, a4, a5, a6⟩ := f3 b hb
      exact ⟨a4, a2, a5, a6⟩
    · exact ⟨_, _, _, (J7.pin _ (List.mem_append_right _ (List.mem_append_left _ (List.mem_singleton.mpr rfl)))).1, rfl, rfl, rfl⟩
    · refine seg_begin T (T.keep _ _ _ tn3 fun b hb o q => kp36 b o q) ?_
      refine seg_turns S T (fun b hb => ⟨Nat.ne_of_lt (lt3 b hb), fun z => ?_, fun p hp z => ?_, hSne b (Nat.le_of_lt (Nat.lt_trans (lt3 b hb) ha))⟩) (fun p hp => ?_) (fun S' z => Nat.lt_trans ha (hSb S' z)) (he A code s3 H3 fp (hrA.deeper _)) step
        (m0 + 1) m0 [] s6 s6 [none] H3 ps (Nat.lt_succ_self _) hps (fun p hp => (IZ2.pin p (List.mem_append_right _ (List.mem_append_right _ hp))).1) w0 IZ2 (T.keep _ _ _ tn3 fun b hb o q => kp36 b o q) fun b hb => (f3 b hb).1
      · rcases List.mem_cons.mp (I3.stkSub b z) with w | w
        · exact (f3 b hb).2.1 w
        · exact (f3 b hb).2.2.1 w
      · rw [List.mem_singleton.mp hp] at z
        have q : h'.objs.size = b := z
        exact absurd (Nat.lt_trans (lt3 b hb) ha) (by rw [q]; exact Nat.lt_irrefl _)
      · rw [List.mem_singleton.mp hp]
        exact hSne _ (Nat.le_refl _)
end
end Gx
namespace Gx
open PySem PySem.Spec PyProof.Rows L2 GenW
section
variable {X : Cx} {pins : List (Addr × Obj)} {σ : L2.St} {H : Hp} {s : Shared} {sc : Scope} {x : Str}
def NyAll (Qb : Bool → Hp → Prop) (W : WT) : Nat → List V → V → Hp → Prop := fun m ys y H => ∃ b : Bool, y = .bl b ∧ if b = true then ∃ m', m' < m ∧ W m' (ys ++ [y]) H else Qb false H
abbrev noRel : List V → Array Value → Prop := fun _ _ => True
theorem all_turns {Z : Cx} {q : List (Addr × Obj)} {W : WT} {Qb : Bool → Hp → Prop} {A : Around} {a : Addr} {g : Nat} {Rr : Result → Shared → Prop} (hh : A.handled = none) (hd : A.depth < recursionLimit)
    (fin : ∀ ps σz Hz s7, Inv Z (q ++ ps) σz Hz s7 → Inv X pins σ Hz s7 ∧ s7.heap.IsGen a g)
    (hdone : ∀ b H' s', Inv X pins σ H' s' → Qb b H' → Rr (.ok (.ret (.bool b))) s') :
    ∀ (n : Nat) (s : Shared), s.heap.IsGen a g → s.heap.NoLimit →
      (∃ gs, s.gens[g]? = some gs ∧ gs.Goes (model X.prog X.w) A.in1.in1 (GRx Z q none noRel fun _ => Qb true) (GYx Z q none noRel W (NyAll Qb W)) n (.send .none) (s.setGen g .running)) →
      codeAny (model X.prog X.w) A (.builtin "all.loop" ⟨[.ref a], []⟩) Rr s := by
  intro n
  induction n using Nat.strongRecOn with
  | ind n ih =>
    intro s hg hl ⟨gs, hgs, hgo⟩
    have hgl : g < s.gens.size := (Array.getElem?_eq_some_iff.mp hgs).1
    refine codeAny_builtin F.entry_all_loop ?_; rw [Around.under_plainId F.plain_all_loop _]
    show wpAny _ A.in1 (pyNext (.ref a) >>= _) _ _ s
    refine wpAny_bind (wpAny_gsz (n := g + 1) hgl (next_genG (A := A.in1) hh hl hd hg hgs hgo (fun v s₁ gs' hbare hv => ?_) (fun s₁ hp h' hk => ?_) fun e s₁ he => he.elim))
    · intro hsz
      obtain ⟨m, ys, y, σz, Hz, ps, hm, rv, hps, _, J, ⟨b, eb, hb⟩, hkap⟩ := hv
      subst eb
      have eps : ps = [] := hps
      subst eps
      have ev : v = Value.bool b := rv
      subst ev
      obtain ⟨I1, g1⟩ := fin _ _ _ _ J
      have hsz1 : g < s₁.gens.size := by
        have q1 : (s₁.setGen g gs').gens.size = s₁.gens.size := setGen_size _ _ _
        have q2 : g + 1 ≤ (s₁.setGen g gs').gens.size := hsz
        omega
      have bare2 : AllBare (s₁.setGen g gs').gens := allBare_setGen I1.bare hbare
      refine wpAny_bind (wpAny_holding (wpAny_truthy_bool ?_))
      refine wpAny_bind (wpAny_letGo ?_)
      cases b with
      | true =>
        obtain ⟨m', hm', hw⟩ : ∃ m', m' < m ∧ W m' (ys ++ [V.bl true]) Hz := by simpa using hb
        simp only [if_true]
        cases n with
        | zero => omega
        | succ n =>
          refine wpAny_pure ⟨plainId_quiet F.plain_all_loop _, ih n (Nat.lt_succ_self n) (s₁.setGen g gs') g1 I1.nolimit ⟨gs', setGen_at hsz1, ?_⟩⟩
          exact hkap ((s₁.setGen g gs').setGen g .running) ⟨rfl, allBare_setGen bare2 rfl, fun b o _ e => e, fun S z => by cases z⟩ m' hm' hw
      | false =>
        have hq : Qb false Hz := by simpa using hb
        simp only [Bool.false_eq_true, if_false]
        exact wpAny_bind (wpAny_rule (wpAny_pure (hdone false Hz _ (regens I1 rfl (fun _ _ e => e) bare2) hq)))
    · intro hsz
      obtain ⟨ys, σz, Hz, ps, hps, _, J, hq⟩ := hp
      have eps : ps = [] := hps
      subst eps
      obtain ⟨I1, g1⟩ := fin _ _ _ _ J
      exact wpAny_bind (wpAny_rule (wpAny_pure (hdone true Hz _ (regens I1 rfl (fun b o e => hk b o e) (allBare_setGen I1.bare rfl)) hq)))
/-- all(elt for x in iter) -/
def tAllG (P : Addr) (wi : TI) (te : TE) : TE := fun σ H Q => tGen P wi te (NyAll fun b H => Q (.bl b) H) (fun _ H => Q (.bl true) H) σ H
theorem pe_allG {elt iter : Expr} {px p pos gpos : Pos} {c P : Addr} {wi : TI} {te : TE} {k : Nat}
    (hr : Room (k + 3) X.A) (hg : Gl X "all") (hm : X.mg "all" = none) (TB : GxR.TabB X.base X.mg c P) (hcode : X.env.code = .ref c) (S : GSc sc x) (hi : PI X (.Name x px) iter wi)
    (he : ∀ (A : Around) (code : Value) (s4 : Shared) (H4 : Hp) (fp : List Addr), Room k (A.deeper (gE X sc s4.heap.objs.size code)) → PE (gCx X A sc x code s4 H4 fp) elt te)
    (hs : ∀ v, genFold iter X.env v = pure v)
    (hst : starEach [.GeneratorExp elt [⟨.Name x px, iter, [], 0⟩] sc gpos] X.env = (false, eval (.GeneratorExp elt [⟨.Name x px, iter, [], 0⟩] sc gpos) X.env) :: starEach [] X.env := by rfl) :
    PE X (.Call (.Name "all" p) [.GeneratorExp elt [⟨.Name x px, iter, [], 0⟩] sc gpos] [] pos) (tAllG P wi te) := by
  refine ⟨fun pins s σ H Q I h => ?_⟩
  have hb : bootBuiltins "all" = some (.builtin "all") := by decide +kernel
  refine wpAny_Call_Name_kw (ld_blt I hg hm hb (PyProof.Rows.callWith_builtin1 ?_ hst (by rfl)))
  rw [hst]
  show wpAny _ _ (spliced ((false, eval (.GeneratorExp elt [⟨.Name x px, iter, [], 0⟩] sc gpos) X.env) :: backTo pos (starEach [] X.env))) _ _ s
  refine Calls.spliced_cons (gx_make (k := k) (Rel := noRel) hr TB hcode S hi he hs I h fun a s5 hB => Calls.spliced_nil ?_)
  obtain ⟨g, cd, H4, hgen, hfresh, I5, ha, wake⟩ := hB
  refine call_function_tree F.kind_all F.plain_all F.entry_all (F.args_all1 _) ?_
  unfold Builtin.«all»
  refine wpAny_bind (m := oneArg "all" _) (wpAny_pure (wpAny_bind (wpAny_pyIter_gen hgen ?_)))
  obtain ⟨Z, q, W, m0, fin, seg⟩ := wake X.A.in1.in1 none (s5.setGen g .running) ((hr.mono (by omega : k + 1 + 1 + 1 ≤ k + 3)).in1.in1) I.ok.frames (fun S z => by cases z) (fun _ _ e => e) rfl (allBare_setGen I5.bare rfl)
  refine wpAny_pure ⟨plainId_quiet F.plain_all_loop _, all_turns (Qb := fun b H => Q (.bl b) H) hr.hd hr.depth fin (fun b H' s' I' hq => ?_) (m0 + 1) s5 hgen I5.nolimit ⟨_, hfresh, rfl, seg⟩⟩
  exact ⟨.bl b, H', I', rfl, hq⟩
end
end Gx
namespace Gx
open PySem PySem.Spec PyProof.Rows L2 GenW
section
variable {X : Cx} {pins : List (Addr × Obj)} {σ : L2.St} {H : Hp} {s : Shared} {sc : Scope} {x : Str}
theorem cmp_gt {prog : Program} {w : World} {A : Around} {E : Value → Shared → Prop} {i j : Int} {t u : Tok} {Q : Value → Shared → Prop} (h : Q (.bool (decide (i > j))) s) :
    wpAny (model prog w) A (richCompare .Gt (.int i t) (.int j u)) Q E s :=
  CmpOf.ints_gt (P := fun n v => ∃ t, v = .int (if n = 0 then i else j) t) (fun n => if n = 0 then i else j) (fun _ _ h => h) 0 1 _ _ s Q E ⟨t, rfl⟩ ⟨u, rfl⟩ h
def MaxRel (ys : List V) (acc : Array Value) : Prop :=
  ∃ ns : List Int, ys = ns.map V.int ∧ ((ns = [] ∧ acc = #[]) ∨ ∃ b t, acc = #[.int b t, .int b t] ∧ b ∈ ns ∧ ∀ z ∈ ns, z ≤ b)
def NyMax (W : WT) : Nat → List V → V → Hp → Prop := fun m ys y H => ∃ i : Int, y = .int i ∧ ∃ m', m' < m ∧ W m' (ys ++ [y]) H
def NsMax (Qm : Int → Hp → Prop) : List V → Hp → Prop := fun ys H => ∃ ns : List Int, ys = ns.map V.int ∧ ns ≠ [] ∧ ∀ b, b ∈ ns → (∀ z ∈ ns, z ≤ b) → Qm b H
theorem map_int_inj {a b : List Int} (h : a.map V.int = b.map V.int) : a = b := by
  induction a generalizing b with
  | nil => cases b with
    | nil => rfl
    | cons _ _ => cases h
  | cons x a ih => cases b with
    | nil => cases h
    | cons y b =>
      rw [List.map_cons, List.map_cons] at h
      injection h with h1 h2
      injection h1 with h1
      rw [h1, ih h2]
theorem MaxRel.first {i : Int} {t : Tok} {ys : List V} (h : MaxRel ys #[]) : MaxRel (ys ++ [.int i]) #[.int i t, .int i t] := by
  obtain ⟨ns, rfl, h | ⟨b, u, e, _⟩⟩ := h
  · rw [h.1]
    exact ⟨[i], rfl, .inr ⟨i, t, rfl, by simp, by simp⟩⟩
  · have := congrArg Array.size e
    simp at this
theorem MaxRel.more {i b : Int} {t u : Tok} {ys : List V} (h : MaxRel ys #[.int b u, .int b u]) : MaxRel (ys ++ [.int i]) (if decide (i > b) = true then #[.int i t, .int i t] else #[.int b u, .int b u]) := by
  obtain ⟨ns, rfl, h | ⟨b', u', e, hb, hm⟩⟩ := h
  · have := congrArg Array.size h.2
    simp at this
  · have e' : b = b' := by
      have := congrArg (fun a : Array Value => a[0]?) e
      simp at this
      exact this.1
    subst e'
    refine ⟨ns ++ [i], by simp, .inr ?_⟩
    by_cases hi : i > b
    · rw [if_pos (decide_eq_true hi)]
      refine ⟨i, t, rfl, by simp, fun z hz => ?_⟩
      rcases List.mem_append.mp hz with q | q
      · exact Int.le_of_lt (Int.lt_of_le_of_lt (hm z q) hi)
      · rw [List.mem_singleton.mp q]; exact Int.le_refl _
    · rw [if_neg (by rw [decide_eq_false hi]; exact Bool.false_ne_true)]
      refine ⟨b, u, rfl, List.mem_append_left _ hb, fun z hz => ?_⟩
      rcases List.mem_append.mp hz with q | q
      · exact hm z q
      · rw [List.mem_singleton.mp q]; omega
theorem MaxRel.last {b : Int} {u : Tok} {ys : List V} {Qm : Int → Hp → Prop} (h : MaxRel ys #[.int b u, .int b u]) (q : NsMax Qm ys H) : Qm b H := by
  obtain ⟨ns, rfl, h | ⟨b', u', e, hb, hm⟩⟩ := h
  · have := congrArg Array.size h.2
    simp at this
  · have e' : b = b' := by
      have := congrArg (fun a : Array Value => a[0]?) e
      simp at this
      exact this.1
    subst e'
    obtain ⟨ms, e1, _, hq⟩ := q
    rw [map_int_inj e1] at hb hm
    exact hq b hb hm
theorem MaxRel.none {ys : List V} {Qm : Int → Hp → Prop} (h : MaxRel ys #[]) (q : NsMax Qm ys H) : False := by
  obtain ⟨ns, rfl, h | ⟨b', u', e, hb, hm⟩⟩ := h
  · obtain ⟨ms, e1, h2, _⟩ := q
    rw [h.1] at e1
    exact h2 (map_int_inj e1).symm
  · have := congrArg Array.size e
    simp at this
/-- what stands at the consumer's list is what it read -/
theorem held_eq {S : Addr} {Rel : Array Value → Prop} {ps : List (Addr × Obj)} {s₀ : Shared} {acc : Array Value} {c : Nat} (hps : Held (some S) Rel ps) (h0 : ∀ p ∈ ps, s₀.heap.get? p.1 = some p.2) (hS : s₀.heap.get? S = some (lstObj acc c)) :
    ps = [(S, lstObj acc c)] ∧ Rel acc := by
  obtain ⟨acc', c', e, hR⟩ := hps
  subst e
  have q := h0 _ (List.mem_singleton.mpr rfl)
  rw [hS] at q
  injection q with q
  have q1 : (Data.seq acc c : Data) = Data.seq acc' c' := congrArg Obj.data q
  injection q1 with q1 q2
  subst q1 q2
  exact ⟨rfl, hR⟩
theorem max_turns {Z : Cx} {q : List (Addr × Obj)} {W : WT} {Qm : Int → Hp → Prop} {A : Around} {a S : Addr} {g : Nat} {Rr : Result → Shared → Prop} (hh : A.handled = none) (hd : A.depth < recursionLimit) (hSa : S ≠ a) (hSc : S ≠ cStatics)
    (fin : ∀ ps σz Hz s7, Inv Z (q ++ ps) σz Hz s7 → Inv X pins σ Hz s7 ∧ s7.heap.IsGen a g)
    (hin : ∀ (ps : List (Addr × Obj)) σz Hz s7 acc c s8, Inv Z (q ++ ps) σz Hz s7 → ps = [(S, lstObj acc c)] → (∀ b o, b ≠ S → s7.heap.get? b = some o → s8.heap.get? b = some o) → s8.os = s7.os → AllBare s8.gens → Inv X pins σ Hz s8)
    (hdone : ∀ b t H' s', Inv X pins σ H' s' → Qm b H' → Rr (.ok (.ret (.int b t))) s') :
    ∀ (n : Nat) (s : Shared) (acc : Array Value) (c : Nat), (acc = #[] ∨ ∃ b t, acc = #[.int b t, .int b t]) → s.heap.get? S = some (lstObj acc c) → s.heap.IsGen a g → s.heap.NoLimit →
      (∃ gs, s.gens[g]? = some gs ∧ gs.Goes (model X.prog X.w) A.in1.in1 (GRx Z q (some S) MaxRel (NsMax Qm)) (GYx Z q (some S) MaxRel W (NyMax W)) n (.send .none) (s.setGen g .running)) →
      codeAny (model X.prog X.w) A (.builtin "max.loop" ⟨[.ref a, .none, .ref S], []⟩) Rr s := by
  have hname : (toString "max" ++ toString ".loop" : String) = "max.loop" := by decide
  intro n
  induction n using Nat.strongRecOn with
  | ind n ih =>
    intro s acc c hacc hS hg hl ⟨gs, hgs, hgo⟩
    have hgl : g < s.gens.size := (Array.getElem?_eq_some_iff.mp hgs).1
    refine codeAny_builtin F.entry_max_loop ?_; rw [Around.under_plainId F.plain_max_loop _]
    show wpAny _ A.in1 (seqItems? (.ref S) >>= _) _ _ s
    refine wpAny_bind (wpAny_seqItems hS rfl ?_)
    have turn : ∀ (v : Value) (s₁ : Shared) (gs' : GenState) (m : Nat) (ys : List V) (i : Int) (t : Tok) (Hz : Hp) (σz : L2.St) (ps : List (Addr × Obj)) (acc2 : Array Value), g < s₁.gens.size → gs'.bare = true → v = .int i t → m < n + 1 → ps = [(S, lstObj acc c)] → Inv Z (q ++ ps) σz Hz s₁ →
        (∃ m', m' < m ∧ W m' (ys ++ [.int i]) Hz) → MaxRel (ys ++ [.int i]) acc2 → (∃ b t, acc2 = #[.int b t, .int b t]) →
        (∀ s', Woke (some S) (MaxRel (ys ++ [.int i])) s₁ s' → ∀ m', m' < m → W m' (ys ++ [.int i]) Hz → (match (generalizing := false) n with | 0 => False | k + 1 => gs'.Goes (model X.prog X.w) A.in1.in1 (GRx Z q (some S) MaxRel (NsMax Qm)) (GYx Z q (some S) MaxRel W (NyMax W)) k (.send .none) s')) →
        ∀ (s2 : Shared) (c2 : Nat), s2.heap.get? S = some (lstObj acc2 c2) → (∀ b o, b ≠ S → s₁.heap.get? b = some o → s2.heap.get? b = some o) → s2.os = s₁.os → s2.gens = (s₁.setGen g gs').gens →
          codeAny (model X.prog X.w) A (.builtin "max.loop" ⟨[.ref a, .none, .ref S], []⟩) Rr s2 := by
      intro v s₁ gs' m ys i t Hz σz ps acc2 hsz hbare _ hm hps J ⟨m', hm', hw⟩ hR hacc2 hkap s2 c2 hS2 k2 os2 gens2
      cases n with
      | zero => omega
      | succ n =>
        obtain ⟨I1, g1⟩ := fin _ _ _ _ J
        have bare2 : AllBare (s₁.setGen g gs').gens := allBare_setGen I1.bare hbare
        have I2 := hin _ _ _ _ _ _ s2 J hps k2 os2 (by rw [gens2]; exact bare2)
        have size2 : g < s2.gens.size := by
          rw [gens2, setGen_size]; exact hsz
        refine ih n (Nat.lt_succ_self n) s2 acc2 c2 (.inr hacc2) hS2 ?_ I2.nolimit ⟨gs', ?_, ?_⟩
        · obtain ⟨o, nm, qn, ho, r⟩ := g1
          exact ⟨o, nm, qn, k2 a o (Ne.symm hSa) ho, r⟩
        · rw [gens2]; exact setGen_at hsz
        · refine hkap (s2.setGen g .running) ⟨os2, allBare_setGen I2.bare rfl, fun b o hb e => k2 b o (fun z => hb (by rw [z])) e, fun S' z => ?_⟩ m' hm' hw
          cases z
          exact ⟨acc2, c2, hS2, hR⟩
    have nx : ∀ (Q : Option Value → Shared → Prop) (E : Value → Shared → Prop),
        (∀ (v : Value) (s₁ : Shared) (gs' : GenState), gs'.bare = true → g < s₁.gens.size → GYx Z q (some S) MaxRel W (NyMax W) (n - 1) (s.setGen g .running) v s₁ (fun r' s'' => match (generalizing := false) n with
            | 0 => False
            | m + 1 => gs'.Goes (model X.prog X.w) A.in1.in1 (GRx Z q (some S) MaxRel (NsMax Qm)) (GYx Z q (some S) MaxRel W (NyMax W)) m r' s'') → Q (some v) (s₁.setGen g gs')) →
        (∀ s₁, GFx Z q (some S) MaxRel (NsMax Qm) (s.setGen g .running) s₁ → ∀ h', (∀ b o, s₁.heap.get? b = some o → h'.get? b = some o) → Q none { s₁.setGen g .finished with heap := h' }) →
        wpAny (model X.prog X.w) A.in1 (pyNext (.ref a)) Q E s := fun Q E hY hP =>
      wpAny_gsz (n := g + 1) hgl (next_genG (A := A.in1) hh hl hd hg hgs hgo (fun v s₁ gs' hbare hv hsz => hY v s₁ gs' hbare (by
        have q1 : (s₁.setGen g gs').gens.size = s₁.gens.size := setGen_size _ _ _
        have q2 : g + 1 ≤ (s₁.setGen g gs').gens.size := hsz
        omega) hv) (fun s₁ hp h' hk _ => hP s₁ hp h' hk) fun e s₁ he => he.elim)
    rcases hacc with rfl | ⟨b, tb, rfl⟩
    · show wpAny _ A.in1 (tryCatch (pyNext (.ref a)) _ >>= _) _ _ s
      refine wpAny_bind (wpAny_tryCatch (nx _ _ (fun v s₁ gs' hbare hsz hv => ?_) fun s₁ hp h' hk => ?_))
      · obtain ⟨m, ys, y, σz, Hz, ps, hm, rv, hps, h0, J, ⟨i, ey, hw⟩, hkap⟩ := hv
        subst ey
        obtain ⟨t, rfl⟩ := rv
        obtain ⟨eps, hR⟩ := held_eq hps h0 hS
        have hS1 : s₁.heap.get? S = some (lstObj #[] c) := (J.pin (S, lstObj #[] c) (List.mem_append_right _ (List.mem_append_right _ (by rw [eps]; exact List.mem_singleton.mpr rfl)))).1
        show wpAny _ A.in1 (updateSeq S (fun _ => #[.int i t, .int i t]) >>= _) _ _ _
        refine wpAny_bind (wpAny_updateSeq hS1 rfl ?_)
        rw [hname]
        refine wpAny_pure ⟨plainId_quiet F.plain_max_loop _, turn _ s₁ gs' m ys i t Hz σz ps #[.int i t, .int i t] hsz hbare rfl (by omega) eps J hw hR.first ⟨i, t, rfl⟩ hkap _ _ (Heap.get?_update_self _ hS1 rfl) (fun b o hb e => (Heap.get?_update_other _ _ (Ne.symm hb)).trans e) rfl rfl⟩
      · obtain ⟨ys, σz, Hz, ps, hps, h0, J, hq⟩ := hp
        obtain ⟨eps, hR⟩ := held_eq hps h0 hS
        exact (hR.none hq).elim
    · show wpAny _ A.in1 (tryCatch (pyNext (.ref a)) _ >>= _) _ _ s
      refine wpAny_bind (wpAny_tryCatch (nx _ _ (fun v s₁ gs' hbare hsz hv => ?_) fun s₁ hp h' hk => ?_))
      · obtain ⟨m, ys, y, σz, Hz, ps, hm, rv, hps, h0, J, ⟨i, ey, hw⟩, hkap⟩ := hv
        subst ey
        obtain ⟨t, rfl⟩ := rv
        obtain ⟨eps, hR⟩ := held_eq hps h0 hS
        have hS1 : s₁.heap.get? S = some (lstObj #[.int b tb, .int b tb] c) := (J.pin (S, lstObj _ c) (List.mem_append_right _ (List.mem_append_right _ (by rw [eps]; exact List.mem_singleton.mpr rfl)))).1
        have hR2 := hR.more (i := i) (t := t)
        show wpAny _ A.in1 (tryCatch (holding [.int i t, .int i t] (richCompare .Gt (.int i t) (.int b tb) >>= _)) _ >>= _) _ _ _
        refine wpAny_bind (wpAny_tryCatch (wpAny_holding (wpAny_bind (cmp_gt ?_))))
        refine wpAny_bind (wpAny_holding (wpAny_truthy_bool ?_))
        refine wpAny_bind (wpAny_letGo (wpAny_pure ?_))
        cases hb : decide (i > b) with
        | true =>
          rw [if_pos hb] at hR2
          simp only [if_true]
          refine wpAny_bind (wpAny_updateSeq hS1 rfl (wpAny_bind (wpAny_letGo ?_)))
          rw [hname]
          refine wpAny_pure ⟨plainId_quiet F.plain_max_loop _, turn _ s₁ gs' m ys i t Hz σz ps #[.int i t, .int i t] hsz hbare rfl (by omega) eps J hw hR2 ⟨i, t, rfl⟩ hkap _ _ (Heap.get?_update_self _ hS1 rfl) (fun b o hb e => (Heap.get?_update_other _ _ (Ne.symm hb)).trans e) rfl rfl⟩
        | false =>
          rw [if_neg (by rw [hb]; exact Bool.false_ne_true)] at hR2
          simp only [Bool.false_eq_true, if_false]
          refine wpAny_bind (wpAny_letGo ?_)
          rw [hname]
          exact wpAny_pure ⟨plainId_quiet F.plain_max_loop _, turn _ s₁ gs' m ys i t Hz σz ps #[.int b tb, .int b tb] hsz hbare rfl (by omega) eps J hw hR2 ⟨b, tb, rfl⟩ hkap _ c hS1 (fun _ _ _ e => e) rfl rfl⟩
      · obtain ⟨ys, σz, Hz, ps, hps, h0, J, hq⟩ := hp
        obtain ⟨eps, hR⟩ := held_eq hps h0 hS
        have hS1 : s₁.heap.get? S = some (lstObj #[.int b tb, .int b tb] c) := (J.pin (S, lstObj _ c) (List.mem_append_right _ (List.mem_append_right _ (by rw [eps]; exact List.mem_singleton.mpr rfl)))).1
        obtain ⟨I1, g1⟩ := fin _ _ _ _ J
        show wpAny _ A.in1 (updateSeq S (fun _ => #[]) >>= _) _ _ _
        refine wpAny_bind (wpAny_updateSeq (hk _ _ hS1) rfl (wpAny_bind (wpAny_letGo (wpAny_pure ?_))))
        refine hdone b tb Hz _ (hin _ _ _ _ _ _ _ J eps (fun d o hd' e => (Heap.get?_update_other _ _ (Ne.symm hd')).trans (hk d o e)) rfl (allBare_setGen I1.bare rfl)) (hR.last hq)
/-- max(elt for x in iter), whole numbers -/
def tMaxG (P : Addr) (wi : TI) (te : TE) : TE := fun σ H Q => tGen P wi te NyMax (NsMax fun b H => Q (.int b) H) σ H
theorem pe_maxG {elt iter : Expr} {px p pos gpos : Pos} {c P : Addr} {wi : TI} {te : TE} {k : Nat}
    (hr : Room (k + 3) X.A) (hg : Gl X "max") (hm : X.mg "max" = none) (TB : GxR.TabB X.base X.mg c P) (hcode : X.env.code = .ref c) (Sc : GSc sc x) (hi : PI X (.Name x px) iter wi)
    (he : ∀ (A : Around) (code : Value) (s4 : Shared) (H4 : Hp) (fp : List Addr), Room k (A.deeper (gE X sc s4.heap.objs.size code)) → PE (gCx X A sc x code s4 H4 fp) elt te)
    (hs : ∀ v, genFold iter X.env v = pure v)
    (hst : starEach [.GeneratorExp elt [⟨.Name x px, iter, [], 0⟩] sc gpos] X.env = (false, eval (.GeneratorExp elt [⟨.Name x px, iter, [], 0⟩] sc gpos) X.env) :: starEach [] X.env := by rfl) :
    PE X (.Call (.Name "max" p) [.GeneratorExp elt [⟨.Name x px, iter, [], 0⟩] sc gpos] [] pos) (tMaxG P wi te) := by
  have hname : (toString "max" ++ toString ".loop" : String) = "max.loop" := by decide
  refine ⟨fun pins s σ H Q I h => ?_⟩
  have hb : bootBuiltins "max" = some (.builtin "max") := by decide +kernel
  refine wpAny_Call_Name_kw (ld_blt I hg hm hb (PyProof.Rows.callWith_builtin1 ?_ hst (by rfl)))
  rw [hst]
  show wpAny _ _ (spliced ((false, eval (.GeneratorExp elt [⟨.Name x px, iter, [], 0⟩] sc gpos) X.env) :: backTo pos (starEach [] X.env))) _ _ s
  refine Calls.spliced_cons (gx_make (k := k) (Rel := MaxRel) hr TB hcode Sc hi he hs I h fun a s5 hB => Calls.spliced_nil ?_)
  obtain ⟨g, cd, H4, hgen, hfresh, I5, ha, wake⟩ := hB
  refine call_function_tree F.kind_max F.plain_max F.entry_max (F.args_max1 _) ?_
  show wpAny _ X.A.in1 (Builtin.Builtins.bindParams "max" ["key", "default"] 0 ⟨[], []⟩ >>= _) _ _ s5
  refine wpAny_bind (wpAny_of_eq (show Builtin.Builtins.bindParams "max" ["key", "default"] 0 ⟨[], []⟩ = pure [none, none] from rfl) ?_)
  refine wpAny_bind (wpAny_pure (wpAny_bind (wpAny_pyIter_gen hgen ?_)))
  refine wpAny_bind (wpAny_newObj_type ?_)
  rw [hname]
  have hS5 : (s5.heap.push { cls := .type "list", data := .seq #[] }).get? s5.heap.objs.size = some (lstObj #[] 0) := Heap.get?_push_size _ rfl
  have kp5 : ∀ b o, s5.heap.get? b = some o → (s5.heap.push { cls := .type "list", data := .seq #[] }).get? b = some o := fun b o e => Heap.get?_push_of_some _ e
  have I6 : Inv X pins σ H4 { s5 with heap := s5.heap.push { cls := .type "list", data := .seq #[] } } := regens I5 rfl kp5 I5.bare
  obtain ⟨Z, q, W, m0, fin, seg⟩ := wake X.A.in1.in1 (some s5.heap.objs.size) (({ s5 with heap := s5.heap.push { cls := .type "list", data := .seq #[] } } : Shared).setGen g .running) ((hr.mono (by omega : k + 1 + 1 + 1 ≤ k + 3)).in1.in1) I.ok.frames
    (fun S z => by cases z; exact ⟨Nat.le_refl _, #[], 0, hS5, [], rfl, .inl ⟨rfl, rfl⟩⟩) kp5 rfl (allBare_setGen I6.bare rfl)
  have hcl : cStatics < s5.heap.objs.size := let ⟨_, hn, _⟩ := I5.nolimit; hn.lt
  refine wpAny_pure ⟨plainId_quiet F.plain_max_loop _, max_turns (Qm := fun b H => Q (.int b) H) hr.hd hr.depth (Nat.ne_of_gt ha) (Nat.ne_of_gt hcl) fin (fun ps σz Hz s7 acc c' s8 J eps k8 o8 b8 => ?_) (fun b t H' s' I' hq => ?_) (m0 + 1) _ #[] 0 (.inl rfl) hS5 (hgen.keeps kp5) I6.nolimit ⟨_, hfresh, rfl, seg⟩⟩
  · subst eps
    obtain ⟨h1, h2, h3, h4, _⟩ := J.pin (s5.heap.objs.size, lstObj acc c') (List.mem_append_right _ (List.mem_append_right _ (List.mem_singleton.mpr rfl)))
    obtain ⟨I7, _⟩ := fin _ _ _ _ J
    have ni : ∀ b : Addr, b ∉ [s5.heap.objs.size] → b ≠ s5.heap.objs.size := fun b hb e => hb (by rw [e]; exact List.mem_singleton.mpr rfl)
    have nS : ∀ b u, Hz b = some u → b ≠ s5.heap.objs.size := fun b u e z => by rw [z, h2] at e; cases e
    have kp8 : ∀ b o, b ∉ [s5.heap.objs.size] → s7.heap.get? b = some o → s8.heap.get? b = some o := fun b o hb e => k8 b o (ni b hb) e
    refine I7.call' (ch := [s5.heap.objs.size]) o8 ⟨fun b o e _ _ hx => kp8 b o hx e, fun b o e _ _ hx => ⟨o.slots, kp8 b o hx e⟩, fun _ _ _ n _ => n, fun b o e hx => ⟨o, kp8 b o hx e⟩,
      fun _ _ e => e, fun _ _ _ e => e, fun _ _ e => ⟨#[], by rw [e]; simp⟩⟩ (fun b u e => ?_) b8 fun b hb => ?_
    · refine (I7.hok b u e).stay (fun d v hd z => k8 d v ?_ z) (fun _ z => z) fun _ _ z => z
      rcases hd with z | z
      · rw [z]; exact nS b u e
      · exact nS d _ z
    · rw [List.mem_singleton.mp hb]
      obtain ⟨_, a2, _, a4, a5, a6⟩ := I5.fpOk (Nat.le_refl _) h2
      exact ⟨a4, a2, a5, a6⟩
  · exact ⟨.int b, H', I', ⟨t, rfl⟩, hq⟩
end
end Gx
namespace TG
open PySem L2
def top (i : Nat) : Stmt := PySem.Challenge.pw_tabgrow_k13_whole_in_whatever_order_it_i.main.body.getD i (.Pass ⟨0, 0, 0, 0⟩)
abbrev s_is_whole : Stmt := top 17
abbrev s_is_sign : Stmt := top 18
abbrev s_is_text : Stmt := top 19
abbrev s_filled : Stmt := top 20
abbrev s_is_row : Stmt := top 21
abbrev s_misfit : Stmt := top 22
abbrev s_check_page : Stmt := top 23
abbrev s_check_style : Stmt := top 24
abbrev s_stretches : Stmt := top 26
abbrev s_closed_runs : Stmt := top 27
abbrev s_is_closed : Stmt := top 28
abbrev s_described : Stmt := top 29
abbrev s_stands_right : Stmt := top 30
abbrev s_is_figures : Stmt := top 31
abbrev s_laid : Stmt := top 33
abbrev s_closed_cells : Stmt := top 34
abbrev s_left_ends : Stmt := top 35
abbrev s_begins_of : Stmt := top 36
abbrev s_begun : Stmt := top 52
abbrev s_take : Stmt := top 53
abbrev s_alike : Stmt := top 54
abbrev s_sign : Stmt := top 55
abbrev s_cell : Stmt := top 56
abbrev s_row : Stmt := top 57
abbrev s_page : Stmt := top 58
abbrev s_style : Stmt := top 59
abbrev s_typed : Stmt := top 60
abbrev s_lparted : Stmt := top 61
abbrev s_law : Stmt := top 62
/-- the built-ins that the text calls are the built-ins still -/
structure Txt (mg : Str → Option Value) : Prop where
  isin : mg "isinstance" = none
  len : mg "len" = none
  range : mg "range" = none
  max : mg "max" = none
  min : mg "min" = none
  all : mg "all" = none
  str : mg "str" = none
  int : mg "int" = none
  bool : mg "bool" = none
  list : mg "list" = none
  tuple : mg "tuple" = none
  enum : mg "enumerate" = none
  ord : mg "ord" = none
def BoxAt (H : Hp) (b l : Addr) : Prop := ∃ (ns : List Int) (st : Int), H b = some (.lst [.ref l, .int st]) ∧ H l = some (.lst (ns.map V.int)) ∧ ns.length ≤ 63
/-- all but the box stays -/
def KB (b l : Addr) (H H' : Hp) : Prop := ∀ c o, H c = some o → c ≠ b → c ≠ l → H' c = some o
theorem KB.refl {b l : Addr} {H : Hp} : KB b l H H := fun _ _ h _ _ => h
theorem KB.trans {b l : Addr} {H H1 H2 : Hp} (x : KB b l H H1) (y : KB b l H1 H2) : KB b l H H2 := fun c o h n m => y c o (x c o h n m) n m
theorem box_ne {H : Hp} {b l : Addr} (x : BoxAt H b l) : b ≠ l := by
  obtain ⟨ns, st, h1, h2, _⟩ := x
  refine ne_of h1 h2 fun z => ?_
  injection z with z
  cases ns with
  | nil => cases z
  | cons n ns =>
    rw [List.map_cons] at z
    injection z with z _
    cases z
theorem nz {i : Int} (h : i ≠ 0) : i ≠ 0 := h
theorem at0 {α : Type} {v : α} {xs : List α} : atI (v :: xs) 0 = some v := atI_nat (j := 0) rfl
theorem ix0 {n : Nat} : ixN (n + 1) 0 = some 0 := by
  unfold ixN
  rw [if_pos (by decide), if_pos (by omega)]
  rfl
theorem small0 : ([] : List V).length ≤ sizeLine := Nat.zero_le _
theorem dp_ints {K : PySem.W.Frag} {H : Hp} : ∀ ns : List Int, DpAll K H (ns.map V.int) (ns.map PyData.int)
  | [] => .nil
  | n :: ns => .cons (.int n) (dp_ints ns)
theorem canAll_ints : ∀ ns : List Int, PyData.canLayAll0 (ns.map PyData.int) = true
  | [] => rfl
  | _ :: r => by simp [PyData.canLayAll0, PyData.canLay0, canAll_ints r]
theorem depthAll_ints : ∀ ns : List Int, PyData.depthAll (ns.map PyData.int) = 0
  | [] => rfl
  | _ :: r => by simp [PyData.depthAll, PyData.depth, depthAll_ints r]
theorem shaped_of_ints (ns : List Int) : SeqAt.shaped (.list (ns.map PyData.int)) = true := by
  simp [SeqAt.shaped, PyData.canLay0, PyData.depth, canAll_ints, depthAll_ints]
def spTake : Sp := fun vs H Q _ => ∃ (b l : Addr) (many : Int), vs = [.ref b, .int many] ∧ BoxAt H b l ∧ 0 < many ∧ many < 1073741824 ∧
  ∀ (r : Int) (H' : Hp), 0 ≤ r → r < many → BoxAt H' b l → KB b l H H' → Q (.int r) H'
section
variable {P : Program} {w : World} {K : PySem.W.Frag} {mg : Str → Option Value} {base : Heap}
theorem sc_take : FnScope ["_law_box", "_law_many", "_law_number"] ["_law_box", "_law_many"] (defScope s_take) := ⟨rfl, rfl, rfl, by decide +kernel, rfl, by decide +kernel, by decide +kernel⟩
theorem ok_take {f : Addr} {fd : FuncData} (F : Fun K "_law_take" "_law_take" s_take f fd) : FnOk P w K mg base CX0 1 f fd ["_law_box", "_law_many"] spTake := by
  refine F.ok sc_take (fun vs H Q E h => ?_) (fun cdv A outer s H vs Q E hr h => ?_)
  · obtain ⟨b, l, many, rfl, _⟩ := h
    rfl
  · obtain ⟨b, l, many, rfl, hB, m0, m1, k⟩ := h
    have nd := sc_take.nd
    have hu := hr.units
    refine ⟨_, pss_cons (ps_if (pt_cmpR (op_eqD hu) (pe_ix ix_list (pv 0) pe_int (fun _ _ => rfl)) (pe_lst pa_nil) (nomark _))
        (pss_cons (ps_asg (pe_op op_modN (pe_op op_mul (pe_ix ix_list (pv 0) pe_int (fun _ _ => rfl)) pe_int) pe_int) (pg_sub (pv 0) pe_int set_list))
          (pss_one (ps_ret (pe_op op_modN (pe_op op_fdivN (pe_ix ix_list (pv 0) pe_int (fun _ _ => rfl)) pe_int) (pv 1))))) pss_nil)
      (pss_cons (ps_set (i := 2) nd rfl (.inl rfl) (pe_ix ix_list (pe_ix ix_list (pv 0) pe_int (fun _ _ => rfl)) pe_int (fun _ _ => rfl)))
      (pss_cons (ps_asg (pe_op op_fdivN (pv 2) (pv 1)) (pg_sub (pe_ix ix_list (pv 0) pe_int (fun _ _ => rfl)) pe_int set_list))
      (pss_cons (ps_if (PW.pt (pw_or (pt_cmpR op_eq (pe_ix ix_list (pe_ix ix_list (pv 0) pe_int (fun _ _ => rfl)) pe_int (fun _ _ => rfl)) pe_int (nomark _)) (pw_or1 (pt_cmpR op_eq (pe_ix ix_list (pe_ix ix_list (pv 0) pe_int (fun _ _ => rfl)) pe_int (fun _ _ => rfl)) (pe_un un_neg pe_int) (nomark _)))))
          (pss_one (ps_expr (pe_bm PySem.F.plainAttrs_list PySem.F.slot_list_pop PySem.F.type_list_pop mt_popAt (pe_ix ix_list (pv 0) pe_int (fun _ _ => rfl)) (pa_cons pe_int pa_nil)))) pss_nil)
      (pss_one (ps_ret (pe_op op_modN (pv 2) (pv 1))))))), ?_⟩
    obtain ⟨ns, st, h1, h2, h3⟩ := id hB
    have nbl := box_ne hB
    have len2 : ∀ o, (upd H b o) l = some (.lst (ns.map V.int)) := fun o => by rw [upd_ne nbl.symm]; exact h2
    -- _law_box[0] == []
    refine ⟨_, rfl, b, _, 0, .ref l, rfl, rfl, SqL.of h1, rfl, small0, fun p np => ?_⟩
    have npb : b ≠ p := ne_of_none h1 np
    have npl : l ≠ p := ne_of_none h2 np
    have g1 : (upd H p (.lst [])) b = some (.lst [.ref l, .int st]) := by rw [upd_ne npb]; exact h1
    have g2 : (upd H p (.lst [])) l = some (.lst (ns.map V.int)) := by rw [upd_ne npl]; exact h2
    have kp : KB b l H (upd H p (.lst [])) := fun c o e _ _ => by rw [upd_ne (ne_of_none e np)]; exact e
    refine ⟨.list (ns.map PyData.int), .list [], .lst (SqL.of g2) (dp_ints ns), .lst (SqL.of upd_same) .nil, shaped_of_ints ns, rfl, _, rfl, ?_⟩
    cases ns with
    | nil =>
      refine iteT ?_
      refine ⟨_, rfl, b, _, 1, .int st, rfl, rfl, SqL.of g1, rfl, st, 48271, rfl, rfl, .inr (by decide), _, _, rfl, rfl, nz (by decide), _, rfl, b, _, 1, 1, rfl, rfl, g1, rfl, ?_⟩
      refine ⟨_, rfl, b, _, 1, _, rfl, rfl, SqL.of upd_same, rfl, _, _, rfl, rfl, ⟨by decide, by decide⟩, _, rfl, _, _, rfl, rfl, nz (by omega), ?_⟩
      refine k _ _ (Int.fmod_nonneg_of_pos _ m0) (Int.fmod_lt_of_pos _ m0) ⟨[], _, upd_same, by rw [upd_ne nbl.symm]; exact g2, h3⟩ fun c o e hc hl => ?_
      rw [upd_ne hc]
      exact kp c o e hc hl
    | cons n ns =>
      refine iteF ?_
      refine ⟨_, rfl, b, _, 0, .ref l, rfl, rfl, SqL.of g1, rfl, l, _, 0, .int n, rfl, rfl, SqL.of g2, at0, ?_⟩
      refine ⟨_, rfl, _, rfl, n, many, rfl, rfl, ⟨by omega, by omega⟩, _, rfl, b, _, 0, .ref l, rfl, rfl, SqL.of g1, rfl, l, _, 0, 0, rfl, rfl, g2, ix0, ?_⟩
      have j1 : ∀ o, (upd (upd H p (.lst [])) l o) b = some (.lst [.ref l, .int st]) := fun o => by rw [upd_ne nbl]; exact g1
      have kl : ∀ o, KB b l H (upd (upd H p (.lst [])) l o) := fun o c u e hc hl => by rw [upd_ne hl]; exact kp c u e hc hl
      have fin : ∀ ms : List Int, ms.length ≤ 63 → Q (.int (n.fmod many)) (upd (upd H p (.lst [])) l (.lst (ms.map V.int))) := fun ms hm =>
        k _ _ (Int.fmod_nonneg_of_pos _ m0) (Int.fmod_lt_of_pos _ m0) ⟨ms, st, j1 _, upd_same, hm⟩ (kl _)
      have e0 : (List.map V.int (n :: ns)).set 0 (V.int (n.fdiv many)) = List.map V.int (n.fdiv many :: ns) := rfl
      rw [e0]
      -- == 0 or == -1
      refine ⟨_, rfl, b, _, 0, .ref l, rfl, rfl, SqL.of (j1 _), rfl, l, _, 0, .int (n.fdiv many), rfl, rfl, SqL.of upd_same, at0, rfl, _, rfl, ?_⟩
      have done : ∀ H', (∃ ms : List Int, ms.length ≤ 63 ∧ H' = upd (upd H p (.lst [])) l (.lst (ms.map V.int))) → ∃ v, ([some (V.ref b), some (V.int many), some (V.int n)] : L2.St)[2]? = some (some v) ∧ ∃ v_1, ([some (V.ref b), some (V.int many), some (V.int n)] : L2.St)[1]? = some (some v_1) ∧ ∃ i j, v = V.int i ∧ v_1 = V.int j ∧ j ≠ 0 ∧ Q (V.int (i.fmod j)) H' := fun H' ⟨ms, hm, e⟩ => by
        subst e
        exact ⟨_, rfl, _, rfl, n, many, rfl, rfl, nz (by omega), fin ms hm⟩
      have pop : ∀ Z : VK, (∀ y H', H' = upd (upd H p (.lst [])) l (.lst (ns.map V.int)) → Z y H') → rPopAt (.ref l) [.int 0] (upd (upd H p (.lst [])) l (.lst (List.map V.int (n.fdiv many :: ns)))) Z := fun Z hZ =>
        ⟨l, _, 0, 0, _, rfl, rfl, upd_same, by decide, by decide, by simp [seqIndex?], rfl, hZ _ _ (by rw [upd_upd]; rfl)⟩
      have h3' : ns.length ≤ 63 := by simp at h3; omega
      by_cases hz : n.fdiv many = 0
      · rw [decide_eq_true (show V.int (n.fdiv many) = V.int 0 by rw [hz])]
        refine iteT (iteT ⟨_, rfl, b, _, 0, .ref l, rfl, rfl, SqL.of (j1 _), rfl, .inl ⟨rfl, _, SqL.of upd_same⟩, pop _ fun y H' e => done H' ⟨ns, h3', e⟩⟩)
      · rw [decide_eq_false (show ¬ V.int (n.fdiv many) = V.int 0 from fun z => hz (by injection z))]
        refine iteF ⟨_, rfl, b, _, 0, .ref l, rfl, rfl, SqL.of (j1 _), rfl, l, _, 0, .int (n.fdiv many), rfl, rfl, SqL.of upd_same, at0, 1, rfl, rfl, _, rfl, ?_⟩
        refine ite2 (fun _ => ⟨_, rfl, b, _, 0, .ref l, rfl, rfl, SqL.of (j1 _), rfl, .inl ⟨rfl, _, SqL.of upd_same⟩, pop _ fun y H' e => done H' ⟨ns, h3', e⟩⟩) fun _ => ?_
        exact done _ ⟨n.fdiv many :: ns, h3, rfl⟩
end
end TG
namespace TG
open PySem L2
section
variable {P : Program} {w : World} {K : PySem.W.Frag} {mg : Str → Option Value} {base : Heap}
def spBegun (K : PySem.W.Frag) : Sp := fun vs H Q _ => ∃ (a : Addr) (ns : List Int), vs = [.ref a] ∧ SqL K H a (ns.map V.int) ∧ ns.length ≤ 63 ∧
  ∀ (b l : Addr) (H' : Hp), BoxAt H' b l → Same H H' → H b = none → H l = none → Q (.ref b) H'
theorem sc_begun : FnScope ["_law_script", "_law_stirred", "_law_cell_here"] ["_law_script"] (defScope s_begun) := ⟨rfl, rfl, rfl, by decide +kernel, rfl, by decide +kernel, by decide +kernel⟩
theorem ok_begun {f : Addr} {fd : FuncData} (T : Txt mg) (F : Fun K "_law_begun" "_law_begun" s_begun f fd) : FnOk P w K mg base CX0 1 f fd ["_law_script"] (spBegun K) := by
  refine F.ok sc_begun (fun vs H Q E h => ?_) (fun cdv A outer s H vs Q E hr h => ?_)
  · obtain ⟨a, ns, rfl, _⟩ := h
    rfl
  · obtain ⟨a, ns, rfl, hS, hl, k⟩ := h
    have nd := sc_begun.nd
    refine ⟨_, pss_cons (ps_set (i := 1) nd rfl (.inl rfl) pe_int) (pss_cons (ps_for PassesOwn.never rfl (pi_list (pv 0)) (pg_name (i := 2) nd rfl (.inl rfl))
        (pss_one (ps_set (i := 1) nd rfl (.inl rfl) (pe_op op_modN (pe_op op_add (pe_op op_add (pe_op op_mul (pv 1) pe_int) (pe_op op_mul (pv 2) pe_int)) pe_int) pe_int))))
      (pss_one (ps_ret (pe_lst (pa_cons (pe_callTy call_list_of (by rfl) T.list (by decide +kernel) (pa_cons (pv 0) pa_nil))
        (pa_cons (pe_op op_mul (pv 1) (pe_callTy call_int1 (by rfl) T.int (by decide +kernel) (pa_cons (pe_cmpR op_gt (pe_callB call_len_seq (by rfl) T.len PySem.boot_len (pa_cons (pv 0) pa_nil)) pe_int (nomark _)) pa_nil))) pa_nil)))))), ?_⟩
    refine ⟨_, rfl, a, rfl, ⟨_, hS⟩, for_list (xs := ns.map V.int) (fun _ σ H1 => H1 = H ∧ ∃ st c, σ = [some (.ref a), some (.int st), c]) ⟨rfl, 0, _, rfl⟩ (fun i σ H1 _ p => by rw [p.1]; exact hS) ?_ ?_⟩
    · rintro i x σ H1 hx ⟨rfl, st, c, rfl⟩
      obtain ⟨n, rfl⟩ : ∃ n, x = V.int n := by
        rw [List.getElem?_map] at hx
        cases e : ns[i]? with
        | none => rw [e] at hx; cases hx
        | some n => rw [e] at hx; cases hx; exact ⟨n, rfl⟩
      exact ⟨_, rfl, st, 48271, rfl, rfl, .inr (by decide), _, rfl, n, 69621, rfl, rfl, .inr (by decide), _, _, rfl, rfl, _, 11, rfl, rfl, _, 2147483647, rfl, rfl, nz (by decide), rfl, _, _, rfl⟩
    · rintro σ H1 ⟨rfl, st, c, rfl⟩
      refine ⟨_, rfl, a, _, rfl, .inl hS, fun l nl => ?_⟩
      have hS2 : SqL K (upd H1 l (.lst (ns.map V.int))) a (ns.map V.int) := by
        rcases hS with (z | ⟨o, z⟩) | z
        · exact .inl (.inl (by rw [upd_ne (ne_of_none z nl)]; exact z))
        · exact .inl (.inr ⟨o, by rw [upd_ne (ne_of_none z nl)]; exact z⟩)
        · exact .inr z
      refine ⟨_, rfl, _, rfl, a, _, rfl, .inl hS2, _, 2, rfl, rfl, .inr ⟨_, rfl, st, _, rfl, rfl, .inr (by split <;> decide), (by show 2 ≤ sizeLine; decide), fun b nb => ?_⟩⟩
      have nb1 : H1 b = none := by
        by_cases e : b = l
        · rw [e, upd_same] at nb; cases nb
        · rw [upd_ne e] at nb; exact nb
      have nlb : l ≠ b := fun z => by rw [← z, upd_same] at nb; cases nb
      refine k b l _ ⟨ns, _, upd_same, by rw [upd_ne nlb, upd_same], hl⟩ (fun c o e => ?_) nb1 nl
      rw [upd_ne (ne_of_none e nb1), upd_ne (ne_of_none e nl)]
      exact e
theorem ty_list {H : Hp} {a : Addr} {xs : List V} (h : SqL K H a xs) : TyX K H (.ref a) (.type "list") := by
  rcases h with (z | ⟨o, z⟩) | ⟨o, its, n, z, c, _⟩
  · exact .base (.lst z)
  · exact .base (.frz z)
  · exact .kList z c
theorem ty_tup {H : Hp} {a : Addr} {xs : List V} (h : SqT K H a xs) : TyX K H (.ref a) (.type "tuple") := by
  rcases h with (z | ⟨o, z⟩) | ⟨o, its, n, z, c, _⟩
  · exact .base (.tup z)
  · exact .fTuple z
  · exact .kTuple z c
end
end TG
namespace Gx
open PySem PySem.Spec PyProof.Rows L2 GenW
section
variable {J : It} {n : Nat} {G : Hp → Prop} {Y : Nat → Hp → V → Hp → Prop}
/-- all over a walk whose i-th element is f i -/
theorem all_by (w : Walk J n G Y) {te : TE} {Q : VK} {H2 : Hp} (f : Nat → Bool) (Pv : Nat → Hp → Prop) (h0 : Pv 0 H2) (hG : ∀ i H, i ≤ n → Pv i H → G H)
    (hs : ∀ i v H H', i < n → Pv i H → Y i H v H' → ∀ Z : VK, (∀ H3, Pv (i + 1) H3 → Z (.bl (f i)) H3) → te [some v] H' Z)
    (hT : ∀ H, Pv n H → (∀ i, i < n → f i = true) → Q (.bl true) H) (hF : ∀ i H, i < n → f i = false → Pv (i + 1) H → Q (.bl false) H) :
    ∃ W : WT, (∃ m, W m [] H2) ∧ ∀ m ys H, W m ys H → (J.stop ys.length H ∧ (fun (_ : List V) H => Q (.bl true) H) ys H) ∨
      (J.go ys.length H ∧ ∀ v H', J.yld ys.length H v H' → te [some v] H' (NyAll (fun b H => Q (.bl b) H) W m ys)) := by
  refine ⟨fun m ys H => m = n - ys.length ∧ ys.length ≤ n ∧ Pv ys.length H ∧ ∀ i, i < ys.length → f i = true, ⟨n, by simp, Nat.zero_le _, h0, fun i hi => absurd hi (Nat.not_lt_zero _)⟩, ?_⟩
  rintro m ys H ⟨rfl, hl, hp, ht⟩
  have q := hG _ H hl hp
  by_cases hlt : ys.length < n
  · refine .inr ⟨w.goes _ H hlt q, fun v H' y => hs _ v H H' hlt hp (w.yields _ H v H' hlt q y) _ fun H3 p3 => ⟨f ys.length, rfl, ?_⟩⟩
    cases hf : f ys.length with
    | true =>
      refine iteT ⟨n - (ys.length + 1), by omega, by rw [List.length_append, List.length_singleton], by rw [List.length_append, List.length_singleton]; exact hlt, by rw [List.length_append, List.length_singleton]; exact p3, fun i hi => ?_⟩
      rw [List.length_append, List.length_singleton] at hi
      by_cases e : i = ys.length
      · rw [e]; exact hf
      · exact ht i (by omega)
    | false => exact iteF (hF _ H3 hlt hf p3)
  · have e : ys.length = n := by omega
    exact .inl ⟨by rw [e]; exact w.stops H q, hT H (e ▸ hp) fun i hi => ht i (by omega)⟩
/-- max over a walk whose i-th element is g i -/
theorem max_by (w : Walk J n G Y) {te : TE} {Qm : Int → Hp → Prop} {H2 : Hp} (g : Nat → Int) (hn : 0 < n) (Pv : Nat → Hp → Prop) (h0 : Pv 0 H2) (hG : ∀ i H, i ≤ n → Pv i H → G H)
    (hs : ∀ i v H H', i < n → Pv i H → Y i H v H' → ∀ Z : VK, (∀ H3, Pv (i + 1) H3 → Z (.int (g i)) H3) → te [some v] H' Z)
    (hd : ∀ b H, Pv n H → (∃ i, i < n ∧ g i = b) → (∀ i, i < n → g i ≤ b) → Qm b H) :
    ∃ W : WT, (∃ m, W m [] H2) ∧ ∀ m ys H, W m ys H → (J.stop ys.length H ∧ NsMax Qm ys H) ∨
      (J.go ys.length H ∧ ∀ v H', J.yld ys.length H v H' → te [some v] H' (NyMax W m ys)) := by
  refine ⟨fun m ys H => m = n - ys.length ∧ ys.length ≤ n ∧ Pv ys.length H ∧ ys = ((List.range ys.length).map g).map V.int, ⟨n, by simp, Nat.zero_le _, h0, rfl⟩, ?_⟩
  rintro m ys H ⟨rfl, hl, hp, ht⟩
  have q := hG _ H hl hp
  by_cases hlt : ys.length < n
  · refine .inr ⟨w.goes _ H hlt q, fun v H' y => hs _ v H H' hlt hp (w.yields _ H v H' hlt q y) _ fun H3 p3 => ⟨g ys.length, rfl, n - (ys.length + 1), by omega, by rw [List.length_append, List.length_singleton], by rw [List.length_append, List.length_singleton]; exact hlt, by rw [List.length_append, List.length_singleton]; exact p3, ?_⟩⟩
    rw [List.length_append, List.length_singleton, List.range_succ, List.map_append, List.map_append, ← ht]
    rfl
  · have e : ys.length = n := by omega
    refine .inl ⟨by rw [e]; exact w.stops H q, (List.range ys.length).map g, ht, fun z => ?_, fun b hb hm => hd b H (e ▸ hp) ?_ fun i hi => hm _ (List.mem_map.mpr ⟨i, List.mem_range.mpr (by omega), rfl⟩)⟩
    · have := congrArg List.length z
      rw [List.length_map, List.length_range, List.length_nil] at this
      omega
    · obtain ⟨i, hi, e2⟩ := List.mem_map.mp hb
      exact ⟨i, by have := List.mem_range.mp hi; omega, e2⟩
end
def Tabs (cs : List (Addr × Addr)) (H : Hp) : Prop := ∀ p ∈ cs, GxR.TabG H p.2
theorem tab_ext {P : Addr} {H H' : Hp} (t : GxR.TabG H P) (x : GxR.Tabbed P H H') : LamX.ExtN H H' := fun b o e n => by
  by_cases hb : b = P
  · obtain ⟨ps, h1, _⟩ := t
    rw [hb, h1] at e
    cases e
    exact absurd rfl (n ps)
  · rw [x.2 b hb]; exact e
theorem tabs_tab {cs : List (Addr × Addr)} {P : Addr} {H H' : Hp} (t : Tabs cs H) (x : GxR.Tabbed P H H') : Tabs cs H' := fun p hp => by
  by_cases hb : p.2 = P
  · rw [hb]; exact x.1
  · obtain ⟨ps, h1, h2⟩ := t p hp
    exact ⟨ps, by rw [x.2 _ hb]; exact h1, h2⟩
/-- all but tables stays, the tables are tables -/
structure Ex (cs : List (Addr × Addr)) (H H' : Hp) : Prop where
  ext : LamX.ExtN H H'
  tab : Tabs cs H'
  old : ∀ b, H' b = none → H b = none
  oth : ∀ b o, H b = some o → (∀ p ∈ cs, p.2 ≠ b) → H' b = some o
theorem Ex.refl {cs : List (Addr × Addr)} {H : Hp} (t : Tabs cs H) : Ex cs H H := ⟨LamX.ExtN.refl H, t, fun _ h => h, fun _ _ e _ => e⟩
theorem Ex.trans {cs : List (Addr × Addr)} {H H1 H2 : Hp} (a : Ex cs H H1) (b : Ex cs H1 H2) : Ex cs H H2 := ⟨a.ext.trans b.ext, b.tab, fun c h => a.old c (b.old c h), fun c o e m => b.oth c o (a.oth c o e m) m⟩
theorem Ex.tabbed {cs : List (Addr × Addr)} {q : Addr × Addr} {H H' : Hp} (t : Tabs cs H) (m : q ∈ cs) (x : GxR.Tabbed q.2 H H') : Ex cs H H' := ⟨tab_ext (t q m) x, tabs_tab t x, fun b h => by
  by_cases hb : b = q.2
  · obtain ⟨ps, h1, _⟩ := x.1
    rw [hb, h1] at h
    cases h
  · rw [x.2 b hb] at h; exact h, fun b o e n => by
  rw [x.2 b (fun z => n q m z.symm)]
  exact e⟩
theorem upd_none {H : Hp} {a b : Addr} {o : HO} (h : upd H a o b = none) : H b = none ∧ b ≠ a := by
  by_cases hb : b = a
  · rw [hb, upd_same] at h; cases h
  · rw [upd_ne hb] at h; exact ⟨h, hb⟩
theorem Ex.laid {cs : List (Addr × Addr)} {H : Hp} {a : Addr} {o : HO} (t : Tabs cs H) (n : H a = none) : Ex cs H (upd H a o) :=
  ⟨fun b u e _ => by rw [upd_ne (ne_of_none e n)]; exact e, fun p hp => by
    obtain ⟨ps, h1, h2⟩ := t p hp
    exact ⟨ps, by rw [upd_ne (ne_of_none h1 n)]; exact h1, h2⟩, fun b h => (upd_none h).1, fun b u e _ => by
    rw [upd_ne (ne_of_none e n)]
    exact e⟩
/-- a new object, written again -/
theorem ex_new {cs : List (Addr × Addr)} {H H' : Hp} {D : Addr} {o : HO} (t : Tabs cs H) (e : Ex cs H H') (n : H D = none) : Ex cs H (upd H' D o) :=
  ⟨fun b u h m => by rw [upd_ne (ne_of_none h n)]; exact e.ext b u h m, fun p hp => by
    obtain ⟨ps, h1, _⟩ := t p hp
    obtain ⟨ps', h3, h4⟩ := e.tab p hp
    exact ⟨ps', by rw [upd_ne (ne_of_none h1 n)]; exact h3, h4⟩, fun b h => e.old b (upd_none h).1, fun b u h m => by
    rw [upd_ne (ne_of_none h n)]
    exact e.oth b u h m⟩
theorem Ex.lst {cs : List (Addr × Addr)} {H H' : Hp} {a : Addr} {xs : List V} (e : Ex cs H H') (h : H a = some (.lst xs)) : H' a = some (.lst xs) := e.ext _ _ h fun ps q => by cases q
theorem Ex.tup {cs : List (Addr × Addr)} {H H' : Hp} {a : Addr} {xs : List V} (e : Ex cs H H') (h : H a = some (.tup xs)) : H' a = some (.tup xs) := e.ext _ _ h fun ps q => by cases q
theorem Ex.sqL {cs : List (Addr × Addr)} {K : PySem.W.Frag} {H H' : Hp} {a : Addr} {xs : List V} (e : Ex cs H H') (h : SqL K H a xs) : SqL K H' a xs := by
  rcases h with (z | ⟨o, z⟩) | z
  · exact .inl (.inl (e.ext _ _ z fun ps q => by cases q))
  · exact .inl (.inr ⟨o, e.ext _ _ z fun ps q => by cases q⟩)
  · exact .inr z
theorem Ex.sqT {cs : List (Addr × Addr)} {K : PySem.W.Frag} {H H' : Hp} {a : Addr} {xs : List V} (e : Ex cs H H') (h : SqT K H a xs) : SqT K H' a xs := by
  rcases h with (z | ⟨o, z⟩) | z
  · exact .inl (.inl (e.ext _ _ z fun ps q => by cases q))
  · exact .inl (.inr ⟨o, e.ext _ _ z fun ps q => by cases q⟩)
  · exact .inr z
/-- a def whose code object is known -/
theorem fun_okT {P : Program} {w : World} {K : PySem.W.Frag} {mg : Str → Option Value} {base : Heap} {x qual : Str} {st : Stmt} {f c : Addr} {fd : FuncData} {N ps : List Str} {k : Nat} {sp : Sp} (F : Fun K x qual st f fd) (hc : fd.code = .ref c) (S : FnScope N ps (defScope st)) (len : ∀ vs H Q E, sp vs H Q E → vs.length = ps.length)
    (hbody : ∀ (A : Around) (outer : List Env) (s : Shared) (H : Hp) (vs : List V) (Q : VK) (E : XK), Room k (A.deeper (envOfC qual (defScope st) s.heap.objs.size f (.ref c))) → sp vs H Q E →
      ∃ t, PSs (cxOf CX0 P w K mg base N qual (defScope st) f (.ref c) A outer s H E).nox (defBody st) t ∧ t { nx := fun _ H' => Q .non H', rt := Q } (start N vs) H) : FnOk P w K mg base CX0 (k + 1) f fd ps sp := by
  obtain ⟨oc, od, kV, doc, pm, an, cdv, ct, osl, rfl, lk, hcd⟩ := F.ex
  have e : cdv = .ref c := hc
  subst e
  refine fn_of lk hcd S len fun A outer s H vs Q E hr hsp => ?_
  obtain ⟨t, h, q⟩ := hbody A outer s H vs Q E hr hsp
  exact ⟨t, h.nox, q⟩
end Gx
namespace TG
open PySem L2 Gx
def SgOk (c : Nat) : Prop := 32 ≤ c ∧ c ≤ 126 ∧ c ≠ 37
structure CellOk (z : Str) : Prop where
  len : z.length ≤ 10
  sg : ∀ c ∈ z.cps.toList, SgOk c
structure RowOk (r : List Str) : Prop where
  pos : 1 ≤ r.length
  len : r.length ≤ 6
  cells : ∀ z ∈ r, CellOk z
abbrev sV (r : List Str) : List V := r.map V.str
theorem line10 {n : Nat} (h : n ≤ 1000) : n ≤ sizeLine := Nat.le_trans h (by decide)
theorem dT {c : Prop} [Decidable c] (h : c) : V.bl (decide c) = V.bl true := by rw [decide_eq_true h]
theorem dF {c : Prop} [Decidable c] (h : ¬ c) : V.bl (decide c) = V.bl false := by rw [decide_eq_false h]
theorem qT {c : Prop} [Decidable c] {Q : VK} {H : Hp} (h : c) (k : Q (.bl true) H) : Q (.bl (decide c)) H := by rw [decide_eq_true h]; exact k
theorem qN {c : Prop} [Decidable c] {Q : VK} {H : Hp} (h : ¬ c) (k : Q (.bl true) H) : Q (.bl (!decide c)) H := by rw [decide_eq_false h]; exact k
structure Consts (mg : Str → Option Value) : Prop where
  blank : ∃ t, mg "BLANK" = some (.int 32 t)
  tilde : ∃ t, mg "TILDE" = some (.int 126 t)
  percent : ∃ t, mg "PERCENT" = some (.int 37 t)
  rows : ∃ t, mg "MOST_ROWS" = some (.int 30 t)
  cells : ∃ t, mg "MOST_CELLS" = some (.int 6 t)
  signs : ∃ t, mg "MOST_SIGNS" = some (.int 10 t)
  gap : ∃ t, mg "MOST_GAP" = some (.int 4 t)
  least : ∃ t, mg "MOST_LEAST" = some (.int 12 t)
section
variable {P : Program} {w : World} {K : PySem.W.Frag} {mg : Str → Option Value} {base : Heap}
def spWhole : Sp := fun vs H Q _ => ∃ (i lo hi : Int), vs = [.int i, .int lo, .int hi] ∧ lo ≤ i ∧ i ≤ hi ∧ Q (.bl true) H
theorem sc_whole : FnScope ["value", "low", "high"] ["value", "low", "high"] (defScope s_is_whole) := ⟨rfl, rfl, rfl, by decide +kernel, rfl, by decide +kernel, by decide +kernel⟩
theorem ok_whole {f : Addr} {fd : FuncData} (T : Txt mg) (F : Fun K "is_whole" "is_whole" s_is_whole f fd) : FnOk P w K mg base CX0 1 f fd ["value", "low", "high"] spWhole := by
  refine F.ok sc_whole (fun vs H Q E h => ?_) (fun cdv A outer s H vs Q E hr h => ?_)
  · obtain ⟨i, lo, hi, rfl, _⟩ := h
    rfl
  · obtain ⟨i, lo, hi, rfl, h1, h2, k⟩ := h
    refine ⟨_, pss_one (ps_ret (pe_and (pe_callB call_isi (by rfl) T.isin (by decide +kernel) (pa_cons (pv 0) (pa_cons (pe_bltn (v := .ty "int") (by rfl) T.int (by decide +kernel) rfl) pa_nil)))
      (pe_and (pe_not (pe_callB call_isi (by rfl) T.isin (by decide +kernel) (pa_cons (pv 0) (pa_cons (pe_bltn (v := .ty "bool") (by rfl) T.bool (by decide +kernel) rfl) pa_nil)))) (pe_one (pe_chain op_le op_le (pv 1) (pv 0) (pv 2)))))), ?_⟩
    exact ⟨_, rfl, _, _, _, _, true, rfl, .ty _, .base (.int i), kit_ty (by decide +kernel), true, rfl, iteT ⟨_, rfl, _, _, _, _, false, rfl, .ty _, .base (.int i), kit_ty (by decide +kernel), false, rfl, true, rfl, iteT
      ⟨_, rfl, _, rfl, lo, i, rfl, rfl, true, dT h1, iteT ⟨_, rfl, i, hi, rfl, rfl, qT h2 k⟩⟩⟩⟩
def spSg : Sp := fun vs H Q _ => ∃ c : Nat, vs = [.str ⟨#[c]⟩] ∧ SgOk c ∧ Q (.bl true) H
theorem sc_sg : FnScope ["sign"] ["sign"] (defScope s_is_sign) := ⟨rfl, rfl, rfl, by decide +kernel, rfl, by decide +kernel, by decide +kernel⟩
theorem ok_sg {f : Addr} {fd : FuncData} (T : Txt mg) (N : Consts mg) (F : Fun K "is_sign" "is_sign" s_is_sign f fd) : FnOk P w K mg base CX0 1 f fd ["sign"] spSg := by
  refine F.ok sc_sg (fun vs H Q E h => ?_) (fun cdv A outer s H vs Q E hr h => ?_)
  · obtain ⟨c, rfl, _⟩ := h
    rfl
  · obtain ⟨c, rfl, ⟨h1, h2, h3⟩, k⟩ := h
    obtain ⟨t1, e1⟩ := N.blank
    obtain ⟨t2, e2⟩ := N.tilde
    obtain ⟨t3, e3⟩ := N.percent
    refine ⟨_, pss_one (ps_ret (pe_and (pe_chain op_le op_le (pe_glob (v := .int 32) rfl e1 ⟨_, rfl⟩) (pe_callB call_ord (by rfl) T.ord (by decide +kernel) (pa_cons (pv 0) pa_nil)) (pe_glob (v := .int 126) rfl e2 ⟨_, rfl⟩))
      (pe_one (pe_cmpR op_ne (pe_callB call_ord (by rfl) T.ord (by decide +kernel) (pa_cons (pv 0) pa_nil)) (pe_glob (v := .int 37) rfl e3 ⟨_, rfl⟩) (nomark _))))), ?_⟩
    refine ⟨_, rfl, _, rfl, rfl, 32, (c : Int), rfl, rfl, true, dT (show (32 : Int) ≤ c by omega), iteT ⟨(c : Int), 126, rfl, rfl, ?_⟩⟩
    have e4 : V.bl (decide ((c : Int) ≤ 126)) = V.bl true := dT (by omega)
    refine ⟨true, e4, iteT ⟨_, rfl, _, rfl, rfl, rfl, qN (fun z => ?_) k⟩⟩
    injection z with z
    exact h3 (Int.ofNat.inj z)
def spText (cs : List (Addr × Addr)) : Sp := fun vs H Q _ => ∃ (z : Str) (m : Int), vs = [.str z, .int m] ∧ Tabs cs H ∧ (z.length : Int) ≤ m ∧ z.length ≤ 1000 ∧ (∀ c ∈ z.cps.toList, SgOk c) ∧ ∀ H', Ex cs H H' → Q (.bl true) H'
theorem sc_text : FnScope ["value", "most"] ["value", "most"] (defScope s_is_text) := ⟨rfl, rfl, rfl, by decide +kernel, rfl, by decide +kernel, by decide +kernel⟩
theorem ok_text {f c Pt g : Addr} {fd fdg : FuncData} {cs : List (Addr × Addr)} (T : Txt mg) (F : Fun K "is_text_of_signs" "is_text_of_signs" s_is_text f fd) (hc : fd.code = .ref c) (TB : GxR.TabB base mg c Pt) (hm : (c, Pt) ∈ cs)
    (G : FnOk P w K mg base CX0 1 g fdg ["sign"] spSg) (kp : PySem.W.keepIn K (.ref g) = true) (bd : Binds K fdg ["sign"] []) (mgg : mg "is_sign" = some (.ref g)) : FnOk P w K mg base CX0 5 f fd ["value", "most"] (spText cs) := by
  refine fun_okT F hc sc_text (fun vs H Q E h => ?_) (fun A outer s H vs Q E hr h => ?_)
  · obtain ⟨z, m, rfl, _⟩ := h
    rfl
  · obtain ⟨z, m, rfl, hT, h1, h2, h3, k⟩ := h
    refine ⟨_, pss_one (ps_ret (pe_and (pe_callB call_isi (by rfl) T.isin (by decide +kernel) (pa_cons (pv 0) (pa_cons (pe_bltn (v := .ty "str") (by rfl) T.str (by decide +kernel) rfl) pa_nil)))
      (pe_and (pe_cmpR op_le (pe_callB call_len_str (by rfl) T.len PySem.boot_len (pa_cons (pv 0) pa_nil)) (pv 1) (nomark _))
        (pe_one (pe_allG (k := 1) (P := Pt) hr (by rfl) T.all TB rfl ⟨rfl, rfl, by decide +kernel, by decide +kernel, rfl, rfl⟩ (pi_str (pv 0)) (fun A' code s4 H4 fp hr' => pe_call G hr' (by rfl) mgg kp bd .nil pass0 (pa_cons (pv 0) pa_nil)) (fun _ => rfl)))))), ?_⟩
    refine ⟨_, rfl, _, _, _, _, true, rfl, .ty _, .base (.str z), kit_ty (by decide +kernel), true, rfl, iteT ⟨_, rfl, z, rfl, line10 h2, _, rfl, _, _, rfl, rfl, true, dT h1, iteT ⟨_, rfl, z, rfl, hT _ hm, fun H2 hH2 => ?_⟩⟩⟩
    refine all_by (w := walk_str (z := z)) (fun _ => true) (fun _ H' => H' = H2) rfl (fun _ _ _ _ => trivial) (fun i v H3 H4 hi e y Z hZ => ?_) (fun H3 e _ => ?_) (fun i H3 _ e _ => by cases e)
    · obtain ⟨rfl, c, hc, rfl⟩ := y
      subst e
      refine ⟨_, rfl, c, rfl, h3 c ?_, hZ _ rfl⟩
      exact List.mem_of_getElem? (by rw [Array.getElem?_toList]; exact hc)
    · subst e
      exact k _ (Ex.tabbed hT hm hH2)
end
end TG
namespace TG
open PySem L2 Gx
/-- a page: its rows' tuples at as -/
structure PageAt (K : PySem.W.Frag) (H : Hp) (a : Addr) (as : List Addr) (rows : List (List Str)) : Prop where
  lst : SqL K H a (as.map V.ref)
  len : as.length = rows.length
  row : ∀ (i : Nat) (p : Addr) (r : List Str), as[i]? = some p → rows[i]? = some r → SqT K H p (sV r)
structure PgOk (rows : List (List Str)) : Prop where
  pos : 1 ≤ rows.length
  len : rows.length ≤ 30
  rows : ∀ r ∈ rows, RowOk r
theorem PageAt.ex {K : PySem.W.Frag} {cs : List (Addr × Addr)} {H H' : Hp} {a : Addr} {as : List Addr} {rows : List (List Str)} (p : PageAt K H a as rows) (e : Ex cs H H') : PageAt K H' a as rows :=
  ⟨e.sqL p.lst, p.len, fun i q r h1 h2 => e.sqT (p.row i q r h1 h2)⟩
theorem get_map {α β : Type} {f : α → β} {xs : List α} {i : Nat} {y : β} (h : (xs.map f)[i]? = some y) : ∃ x, xs[i]? = some x ∧ y = f x := by
  rw [List.getElem?_map] at h
  cases e : xs[i]? with
  | none => rw [e] at h; cases h
  | some x => rw [e] at h; cases h; exact ⟨x, rfl, rfl⟩
theorem getP {α : Type} {xs : List α} {i : Nat} (h : i < xs.length) : ∃ x, xs[i]? = some x := ⟨xs[i], List.getElem?_eq_getElem h⟩
section
variable {P : Program} {w : World} {K : PySem.W.Frag} {mg : Str → Option Value} {base : Heap} {cs : List (Addr × Addr)}
def spRow (K : PySem.W.Frag) (cs : List (Addr × Addr)) : Sp := fun vs H Q _ => ∃ (a : Addr) (r : List Str), vs = [.ref a] ∧ Tabs cs H ∧ SqT K H a (sV r) ∧ RowOk r ∧ ∀ H', Ex cs H H' → Q (.bl true) H'
theorem sc_row : FnScope ["value"] ["value"] (defScope s_is_row) := ⟨rfl, rfl, rfl, by decide +kernel, rfl, by decide +kernel, by decide +kernel⟩
theorem ok_isrow {f c Pt g : Addr} {fd fdg : FuncData} (T : Txt mg) (N : Consts mg) (F : Fun K "is_row" "is_row" s_is_row f fd) (hc : fd.code = .ref c) (TB : GxR.TabB base mg c Pt) (hm : (c, Pt) ∈ cs)
    (G : FnOk P w K mg base CX0 5 g fdg ["value", "most"] (spText cs)) (kp : PySem.W.keepIn K (.ref g) = true) (bd : Binds K fdg ["value", "most"] []) (mgg : mg "is_text_of_signs" = some (.ref g)) : FnOk P w K mg base CX0 9 f fd ["value"] (spRow K cs) := by
  refine fun_okT F hc sc_row (fun vs H Q E h => ?_) (fun A outer s H vs Q E hr h => ?_)
  · obtain ⟨a, r, rfl, _⟩ := h
    rfl
  · obtain ⟨a, r, rfl, hT, hS, ⟨p1, p2, p3⟩, k⟩ := h
    obtain ⟨t1, e1⟩ := N.cells
    obtain ⟨t2, e2⟩ := N.signs
    refine ⟨_, pss_cons (ps_if (PW.pt (pw_or (pt_not (pt_val (pe_callB call_isi (by rfl) T.isin (by decide +kernel) (pa_cons (pv 0) (pa_cons (pe_bltn (v := .ty "tuple") (by rfl) T.tuple (by decide +kernel) rfl) pa_nil)))))
        (pw_or1 (pt_not (pt_chain op_le op_le pe_int (pe_callB call_len_seq (by rfl) T.len PySem.boot_len (pa_cons (pv 0) pa_nil)) (pe_glob (v := .int 6) rfl e1 ⟨_, rfl⟩)))))) (pss_one (ps_ret pe_bl)) pss_nil)
      (pss_one (ps_ret (pe_allG (k := 5) (P := Pt) hr (by rfl) T.all TB rfl ⟨rfl, rfl, by decide +kernel, by decide +kernel, rfl, rfl⟩ (pi_tup (pv 0))
        (fun A' code s4 H4 fp hr' => pe_call G hr' (by rfl) mgg kp bd .nil pass0 (pa_cons (pv 0) (pa_cons (pe_glob (v := .int 10) rfl e2 ⟨_, rfl⟩) pa_nil))) (fun _ => rfl)))), ?_⟩
    have hl : (sV r).length = r.length := List.length_map ..
    refine ⟨_, rfl, _, _, _, _, true, rfl, .ty _, ty_tup hS, kit_ty (by decide +kernel), true, rfl, iteF ⟨_, rfl, a, _, rfl, .inr hS, 1, _, rfl, rfl, true, dT (by omega), iteT ⟨_, 6, rfl, rfl, true, dT (by omega), iteF ?_⟩⟩⟩
    refine ⟨_, rfl, a, rfl, ⟨_, hS⟩, hT _ hm, fun H2 hH2 => ?_⟩
    have x2 := Ex.tabbed hT hm hH2
    refine all_by (w := walk_tup (a := a) (xs := sV r)) (fun _ => true) (fun _ H' => Ex cs H H') x2 (fun i H' _ x => x.sqT hS) (fun i v H3 H4 hi x y Z hZ => ?_) (fun H3 x _ => k _ x) (fun i H3 _ e _ => by cases e)
    obtain ⟨rfl, hv⟩ := y
    obtain ⟨z, hz, rfl⟩ := get_map hv
    obtain ⟨c1, c2⟩ := p3 z (List.mem_of_getElem? hz)
    exact ⟨_, rfl, z, 10, rfl, x.tab, by omega, by omega, c2, fun H5 x5 => hZ _ (x.trans x5)⟩
def spCheck (K : PySem.W.Frag) (cs : List (Addr × Addr)) : Sp := fun vs H Q _ => ∃ (a : Addr) (as : List Addr) (rows : List (List Str)), vs = [.ref a] ∧ Tabs cs H ∧ PageAt K H a as rows ∧ PgOk rows ∧ ∀ H', Ex cs H H' → Q .non H'
theorem sc_misfit : FnScope ["rows", "number", "row"] ["rows"] (defScope s_misfit) := ⟨rfl, rfl, rfl, by decide +kernel, rfl, by decide +kernel, by decide +kernel⟩
theorem ok_misfit {f g : Addr} {fd fdg : FuncData} (T : Txt mg) (N : Consts mg) (F : Fun K "first_misfit" "first_misfit" s_misfit f fd)
    (G : FnOk P w K mg base CX0 9 g fdg ["value"] (spRow K cs)) (kp : PySem.W.keepIn K (.ref g) = true) (bd : Binds K fdg ["value"] []) (mgg : mg "is_row" = some (.ref g)) : FnOk P w K mg base CX0 10 f fd ["rows"] (spCheck K cs) := by
  refine F.ok sc_misfit (fun vs H Q E h => ?_) (fun cdv A outer s H vs Q E hr h => ?_)
  · obtain ⟨a, as, rows, rfl, _⟩ := h
    rfl
  · obtain ⟨a, as, rows, rfl, hT, hP, hO, k⟩ := h
    have nd := sc_misfit.nd
    obtain ⟨t1, e1⟩ := N.rows
    refine ⟨_, pss_cons (ps_for PassesOwn.never rfl (pi_enum (by rfl) T.enum (pa_cons (pv 0) pa_nil)) (pg_tup rfl (pgs_cons (pg_name (i := 1) nd rfl (.inl rfl)) (pgs_cons (pg_name (i := 2) nd rfl (.inl rfl)) pgs_nil)))
        (pss_one (ps_if (PW.pt (pw_or (pt_cmpR op_eq (pv 1) (pe_glob (v := .int 30) rfl e1 ⟨_, rfl⟩) (nomark _)) (pw_or1 (pt_not (pt_val (pe_call G hr (by rfl) mgg kp bd .nil pass0 (pa_cons (pv 2) pa_nil))))))) (pss_one ps_never) pss_nil)))
      (pss_one (ps_ret pe_non)), ?_⟩
    have hl : (as.map V.ref).length = rows.length := by rw [List.length_map]; exact hP.len
    have := hO.pos
    have := hO.len
    refine ⟨_, rfl, a, _, rfl, hP.lst, for_it (walk_enum (xs := as.map V.ref)) (fun _ σ H' => Ex cs H H' ∧ σ[0]? = some (some (.ref a)) ∧ σ.length = 3) ⟨Ex.refl hT, rfl, rfl⟩ (fun i σ H' _ x => x.1.sqL hP.lst) ?_ ?_⟩
    · rintro i x σ H3 H4 hi ⟨x3, s0, sl⟩ ⟨Tp, v, u, rfl, hn, rfl, hv, hu⟩
      cases hv
      obtain ⟨p, hp, rfl⟩ := get_map hu
      have hi2 : i < rows.length := by omega
      obtain ⟨r, hr2⟩ := getP hi2
      have xl := Ex.laid (o := .tup [.int (i : Nat), .ref p]) x3.tab hn
      refine ⟨Tp, _, rfl, .inl (.inl upd_same), rfl, _, _, rfl, _, _, rfl, rfl, ?_⟩
      have g1 : ((σ.set 1 (some (V.int (i : Nat)))).set 2 (some (V.ref p)))[1]? = some (some (V.int (i : Nat))) := by
        rw [List.getElem?_set_ne (by decide)]
        exact List.getElem?_set_self (by omega)
      have g2 : ((σ.set 1 (some (V.int (i : Nat)))).set 2 (some (V.ref p)))[2]? = some (some (V.ref p)) := List.getElem?_set_self (by rw [List.length_set]; omega)
      refine ⟨_, g1, rfl, false, dF (fun z => by injection z with z; omega), iteF ⟨_, g2, p, r, rfl, xl.tab, (x3.trans xl).sqT (hP.row i p r hp hr2), hO.rows r (List.mem_of_getElem? hr2), fun H5 x5 => ⟨true, rfl, iteF ⟨(x3.trans xl).trans x5, ?_, ?_⟩⟩⟩⟩
      · rw [List.getElem?_set_ne (by decide), List.getElem?_set_ne (by decide)]; exact s0
      · rw [List.length_set, List.length_set]; exact sl
    · rintro σ H' ⟨x, _⟩
      exact k H' x
theorem sc_check : FnScope ["page", "number"] ["page"] (defScope s_check_page) := ⟨rfl, rfl, rfl, by decide +kernel, rfl, by decide +kernel, by decide +kernel⟩
theorem ok_check {f g : Addr} {fd fdg : FuncData} (T : Txt mg) (F : Fun K "check_page" "check_page" s_check_page f fd)
    (G : FnOk P w K mg base CX0 10 g fdg ["rows"] (spCheck K cs)) (kp : PySem.W.keepIn K (.ref g) = true) (bd : Binds K fdg ["rows"] []) (mgg : mg "first_misfit" = some (.ref g)) : FnOk P w K mg base CX0 11 f fd ["page"] (spCheck K cs) := by
  refine F.ok sc_check (fun vs H Q E h => ?_) (fun cdv A outer s H vs Q E hr h => ?_)
  · obtain ⟨a, as, rows, rfl, _⟩ := h
    rfl
  · obtain ⟨a, as, rows, rfl, hT, hP, hO, k⟩ := h
    have nd := sc_check.nd
    refine ⟨_, pss_cons (ps_if (PW.pt (pw_or (pt_not (pt_val (pe_callB call_isi (by rfl) T.isin (by decide +kernel) (pa_cons (pv 0) (pa_cons (pe_bltn (v := .ty "list") (by rfl) T.list (by decide +kernel) rfl) pa_nil)))))
        (pw_or1 (pt_cmpR op_eq (pe_callB call_len_seq (by rfl) T.len PySem.boot_len (pa_cons (pv 0) pa_nil)) pe_int (nomark _))))) (pss_one ps_never) pss_nil)
      (pss_cons (ps_set (i := 1) nd rfl (.inl rfl) (pe_call G hr (by rfl) mgg kp bd .nil pass0 (pa_cons (pv 0) pa_nil)))
      (pss_one (ps_if (pt_cmpR op_notN (pv 1) pe_non (nomark _)) (pss_one ps_never) pss_nil))), ?_⟩
    have hl : (as.map V.ref).length = rows.length := by rw [List.length_map]; exact hP.len
    have := hO.pos
    have := hO.len
    refine ⟨_, rfl, _, _, _, _, true, rfl, .ty _, ty_list hP.lst, kit_ty (by decide +kernel), true, rfl, iteF ⟨_, rfl, a, _, rfl, .inl hP.lst, rfl, false, dF (fun z => by injection z with z; omega), iteF ?_⟩⟩
    exact ⟨_, rfl, a, as, rows, rfl, hT, hP, hO, fun H' x => ⟨_, rfl, rfl, false, rfl, iteF (k H' x)⟩⟩
structure StyleAt (K : PySem.W.Frag) (H : Hp) (a : Addr) (gap least : Int) : Prop where
  tup : SqT K H a [.int gap, .int least]
  g0 : 0 ≤ gap
  g1 : gap ≤ 4
  l0 : 0 ≤ least
  l1 : least ≤ 12
def spStyle (K : PySem.W.Frag) : Sp := fun vs H Q _ => ∃ (a : Addr) (gap least : Int), vs = [.ref a] ∧ StyleAt K H a gap least ∧ Q .non H
theorem sc_style : FnScope ["style", "gap", "least"] ["style"] (defScope s_check_style) := ⟨rfl, rfl, rfl, by decide +kernel, rfl, by decide +kernel, by decide +kernel⟩
theorem ok_cstyle {f g : Addr} {fd fdg : FuncData} (T : Txt mg) (N : Consts mg) (F : Fun K "check_style" "check_style" s_check_style f fd)
    (G : FnOk P w K mg base CX0 1 g fdg ["value", "low", "high"] spWhole) (kp : PySem.W.keepIn K (.ref g) = true) (bd : Binds K fdg ["value", "low", "high"] []) (mgg : mg "is_whole" = some (.ref g)) : FnOk P w K mg base CX0 2 f fd ["style"] (spStyle K) := by
  refine F.ok sc_style (fun vs H Q E h => ?_) (fun cdv A outer s H vs Q E hr h => ?_)
  · obtain ⟨a, gap, least, rfl, _⟩ := h
    rfl
  · obtain ⟨a, gap, least, rfl, ⟨hS, g0, g1, l0, l1⟩, k⟩ := h
    have nd := sc_style.nd
    obtain ⟨t1, e1⟩ := N.gap
    obtain ⟨t2, e2⟩ := N.least
    refine ⟨_, pss_cons (ps_if (PW.pt (pw_or (pt_not (pt_val (pe_callB call_isi (by rfl) T.isin (by decide +kernel) (pa_cons (pv 0) (pa_cons (pe_bltn (v := .ty "tuple") (by rfl) T.tuple (by decide +kernel) rfl) pa_nil)))))
        (pw_or1 (pt_cmpR op_ne (pe_callB call_len_seq (by rfl) T.len PySem.boot_len (pa_cons (pv 0) pa_nil)) pe_int (nomark _))))) (pss_one ps_never) pss_nil)
      (pss_cons (ps_asg (pv 0) (pg_tup rfl (pgs_cons (pg_name (i := 1) nd rfl (.inl rfl)) (pgs_cons (pg_name (i := 2) nd rfl (.inl rfl)) pgs_nil))))
      (pss_one (ps_if (PW.pt (pw_or (pt_not (pt_val (pe_call G hr (by rfl) mgg kp bd .nil pass0 (pa_cons (pv 1) (pa_cons pe_int (pa_cons (pe_glob (v := .int 4) rfl e1 ⟨_, rfl⟩) pa_nil))))))
        (pw_or1 (pt_not (pt_val (pe_call G hr (by rfl) mgg kp bd .nil pass0 (pa_cons (pv 2) (pa_cons pe_int (pa_cons (pe_glob (v := .int 12) rfl e2 ⟨_, rfl⟩) pa_nil))))))))) (pss_one ps_never) pss_nil))), ?_⟩
    refine ⟨_, rfl, _, _, _, _, true, rfl, .ty _, ty_tup hS, kit_ty (by decide +kernel), true, rfl, iteF ⟨_, rfl, a, _, rfl, .inr hS, rfl, false, rfl, iteF ?_⟩⟩
    exact ⟨_, rfl, a, _, rfl, hS, rfl, _, _, rfl, _, _, rfl, rfl, _, rfl, gap, 0, 4, rfl, g0, g1, true, rfl, iteF ⟨_, rfl, least, 0, 12, rfl, l0, l1, true, rfl, iteF k⟩⟩
end
end TG
namespace TG
open PySem L2 Gx
abbrev cl (z : Str) : List Nat := z.cps.toList
def restL (l : List Nat) : List Nat := if l.head? = some 45 then l.tail else l
def figB (z : Str) : Bool := decide (restL (cl z) ≠ []) && (restL (cl z)).all fun c => decide (48 ≤ c ∧ c ≤ 57)
theorem digit_lt : ∀ c < 127, Unicode.isDigit c = decide (48 ≤ c ∧ c ≤ 57) := by decide +kernel
theorem isdigit_eq {z : Str} (h : ∀ c ∈ cl z, c < 127) : Txt.isdigit z = (decide (cl z ≠ []) && (cl z).all fun c => decide (48 ≤ c ∧ c ≤ 57)) := by
  obtain ⟨⟨l⟩⟩ := z
  unfold Txt.isdigit
  simp only [Str.length, cl] at h ⊢
  congr 1
  · cases l <;> simp
  · rw [Bool.eq_iff_iff]
    simp only [List.all_eq_true, List.all_toArray]
    constructor
    · intro q c hc
      rw [← digit_lt c (h c hc)]; exact q c hc
    · intro q c hc
      rw [digit_lt c (h c hc)]; exact q c hc
theorem cut1 (z : Str) : cl (cutS z (some 1) none) = (cl z).tail := by
  obtain ⟨⟨l⟩⟩ := z
  unfold cutS
  simp only [cl, Str.length]
  rw [HT.sIx_none, show (some (1 : Int)) = some ((1 : Nat) : Int) from rfl, HT.sIx_nat]
  cases l with
  | nil => simp
  | cons a l => simp
theorem starts_dash (z : Str) : Txt.startswith z "-" = decide ((cl z).head? = some 45) := by
  obtain ⟨⟨l⟩⟩ := z
  have e : ("-" : Str) = ⟨#[45]⟩ := by decide +kernel
  rw [e]
  unfold Txt.startswith Builtin.Str.subAt
  cases l with
  | nil => simp [Str.length, cl]
  | cons a l =>
    simp only [Str.length, cl, List.head?_cons]
    by_cases h : a = 45
    · subst h
      simp
    · simp [h]
theorem str_ext {a b : Str} (h : cl a = cl b) : a = b := by
  obtain ⟨⟨a⟩⟩ := a
  obtain ⟨⟨b⟩⟩ := b
  have h : a = b := h
  rw [h]
section
variable {P : Program} {w : World} {K : PySem.W.Frag} {mg : Str → Option Value} {base : Heap} {cs : List (Addr × Addr)}
def spFig : Sp := fun vs H Q _ => ∃ z : Str, vs = [.str z] ∧ CellOk z ∧ Q (.bl (figB z)) H
theorem sc_isfig : FnScope ["cell"] ["cell"] (defScope s_is_figures) := ⟨rfl, rfl, rfl, by decide +kernel, rfl, by decide +kernel, by decide +kernel⟩
theorem ok_isfig {f : Addr} {fd : FuncData} (F : Fun K "is_figures" "is_figures" s_is_figures f fd) : FnOk P w K mg base CX0 1 f fd ["cell"] spFig := by
  refine F.ok sc_isfig (fun vs H Q E h => ?_) (fun cdv A outer s H vs Q E hr h => ?_)
  · obtain ⟨z, rfl, _⟩ := h
    rfl
  · obtain ⟨z, rfl, ⟨h1, h2⟩, k⟩ := h
    refine ⟨_, pss_cons (ps_if (pt_val (pe_m1 PySem.F.slot_str_startswith PySem.F.type_str_startswith mt_startswith (pv 0) pe_str)) (pss_one (ps_ret (pe_m0 PySem.F.slot_str_isdigit PySem.F.type_str_isdigit mt_isdigit (pe_slice sl_str (pv 0) (po_some pe_int) po_none)))) pss_nil)
      (pss_one (ps_ret (pe_m0 PySem.F.slot_str_isdigit PySem.F.type_str_isdigit mt_isdigit (pv 0)))), ?_⟩
    have lt : ∀ c ∈ cl z, c < 127 := fun c hc => by have := h2 c hc; unfold SgOk at this; omega
    refine ⟨_, rfl, ⟨_, rfl⟩, z, _, rfl, rfl, _, rfl, ?_⟩
    rw [starts_dash]
    by_cases hd : (cl z).head? = some 45
    · rw [decide_eq_true hd]
      refine iteT ⟨_, rfl, 1, rfl, z, rfl, line10 (by omega), ⟨_, rfl⟩, _, rfl, rfl, trivial, ?_⟩
      have e : Txt.isdigit (cutS z (some 1) none) = figB z := by
        rw [isdigit_eq (fun c hc => lt c (by rw [cut1] at hc; exact List.mem_of_mem_tail hc)), cut1]
        unfold figB restL
        rw [if_pos hd]
      rw [e]
      exact k
    · rw [decide_eq_false hd]
      refine iteF ⟨_, rfl, ⟨_, rfl⟩, _, rfl, rfl, trivial, ?_⟩
      have e : Txt.isdigit z = figB z := by
        rw [isdigit_eq lt]
        unfold figB restL
        rw [if_neg hd]
      rw [e]
      exact k
end
end TG
namespace TG
open PySem L2 Gx
def fillB (zs : List Str) : List Str := zs.filter fun z => decide (cl z ≠ [])
def rightB (zs : List Str) : Bool := decide (fillB zs ≠ []) && (fillB zs).all figB
theorem ne_empty (z : Str) : (!decide (V.str z = V.str "")) = decide (cl z ≠ []) := by
  have e : ("" : Str) = ⟨#[]⟩ := by decide +kernel
  by_cases h : cl z = []
  · have q : z = "" := str_ext (by rw [h, e])
    rw [decide_eq_true (show V.str z = V.str "" by rw [q]), decide_eq_false (fun n => n h)]
    rfl
  · rw [decide_eq_false (show ¬ V.str z = V.str "" from fun q => h (by injection q with q; rw [q, e])), decide_eq_true h]
    rfl
theorem filter_take {α : Type} {p : α → Bool} {xs : List α} {i : Nat} {x : α} (h : xs[i]? = some x) : (xs.take (i + 1)).filter p = (xs.take i).filter p ++ (if p x = true then [x] else []) := by
  rw [List.take_add_one, h, List.filter_append]
  congr 1
  by_cases hp : p x = true
  · rw [if_pos hp]
    simp [hp]
  · rw [if_neg hp]
    simp [hp]
section
variable {P : Program} {w : World} {K : PySem.W.Frag} {mg : Str → Option Value} {base : Heap} {cs : List (Addr × Addr)}
def spRight (K : PySem.W.Frag) (cs : List (Addr × Addr)) : Sp := fun vs H Q _ => ∃ (a : Addr) (zs : List Str), vs = [.ref a] ∧ Tabs cs H ∧ SqL K H a (sV zs) ∧ zs.length ≤ 1000 ∧ (∀ z ∈ zs, CellOk z) ∧ ∀ H', Ex cs H H' → Q (.bl (rightB zs)) H'
theorem sc_right : FnScope ["cells", "filled", "cell"] ["cells"] (defScope s_stands_right) := ⟨rfl, rfl, rfl, by decide +kernel, rfl, by decide +kernel, by decide +kernel⟩
theorem ok_right {f c Pt g : Addr} {fd fdg : FuncData} (T : Txt mg) (F : Fun K "stands_right" "stands_right" s_stands_right f fd) (hc : fd.code = .ref c) (TB : GxR.TabB base mg c Pt) (hm : (c, Pt) ∈ cs)
    (G : FnOk P w K mg base CX0 1 g fdg ["cell"] spFig) (kp : PySem.W.keepIn K (.ref g) = true) (bd : Binds K fdg ["cell"] []) (mgg : mg "is_figures" = some (.ref g)) : FnOk P w K mg base CX0 5 f fd ["cells"] (spRight K cs) := by
  refine fun_okT F hc sc_right (fun vs H Q E h => ?_) (fun A outer s H vs Q E hr h => ?_)
  · obtain ⟨a, zs, rfl, _⟩ := h
    rfl
  · obtain ⟨a, zs, rfl, hT, hS, hl, hz, k⟩ := h
    have nd := sc_right.nd
    refine ⟨_, pss_cons (ps_setLc (i := 1) (own := [("cell", 2)]) (g := gName 2) rfl nd rfl rfl (sw_true rfl rfl rfl (by decide +kernel)) (pi_list (pv 0)) (blkOk_by (own := [("cell", 2)]) (N := ["cells", "filled", "cell"]) (sc := defScope s_stands_right) (by decide +kernel))
        (fun _ _ _ _ _ => pg_name (i := 2) nd rfl (Or.inl rfl)) (fun _ _ _ _ _ => pts_one (pt_cmpR op_ne (pv 2) pe_str (nomark _))) (fun _ _ _ _ _ => pv 2))
      (pss_one (ps_ret (pe_and (pe_cmpR op_gt (pe_callB call_len_seq (by rfl) T.len PySem.boot_len (pa_cons (pv 1) pa_nil)) pe_int (nomark _))
        (pe_one (pe_allG (k := 1) (P := Pt) hr (by rfl) T.all TB rfl ⟨rfl, rfl, by decide +kernel, by decide +kernel, rfl, rfl⟩ (pi_list (pv 1)) (fun A' code s4 H4 fp hr' => pe_call G hr' (by rfl) mgg kp bd .nil pass0 (pa_cons (pv 0) pa_nil)) (fun _ => rfl)))))), ?_⟩
    have ls : (sV zs).length = zs.length := List.length_map ..
    refine ⟨_, rfl, a, rfl, ⟨_, hS⟩, fun D nD => lc_list (xs := sV zs) (fun i H' => Ex cs H H' ∧ H' D = some (.lst (sV (fillB (zs.take i))))) ⟨Ex.laid hT nD, upd_same⟩ (fun i H' _ p => p.1.sqL hS) ?_ ?_⟩
    · rintro i x H1 hx ⟨x1, hD⟩
      obtain ⟨z, hz1, rfl⟩ := get_map hx
      have hi : i < zs.length := (List.getElem?_eq_some_iff.mp hz1).1
      have hf := filter_take (p := fun z => decide (cl z ≠ [])) hz1
      refine ⟨rfl, _, rfl, rfl, _, rfl, ?_⟩
      rw [ne_empty]
      by_cases hc : cl z ≠ []
      · rw [decide_eq_true hc]
        rw [if_pos (decide_eq_true hc)] at hf
        refine iteT ⟨_, rfl, _, hD, ?_, ex_new hT x1 nD, ?_⟩
        · have q : (fillB (zs.take i)).length ≤ (zs.take i).length := List.length_filter_le ..
          have q2 : (sV (fillB (zs.take i))).length = (fillB (zs.take i)).length := List.length_map ..
          rw [List.length_take] at q
          have : (1000 : Nat) < sizeLine := by decide
          omega
        · rw [upd_same]
          unfold fillB
          rw [hf]
          simp [sV]
      · rw [decide_eq_false hc]
        rw [if_neg (by rw [decide_eq_false hc]; exact Bool.false_ne_true), List.append_nil] at hf
        refine iteF ⟨x1, ?_⟩
        unfold fillB
        rw [hf]
        exact hD
    · rintro H1 ⟨x1, hD⟩
      rw [ls, List.take_of_length_le (Nat.le_refl _)] at hD
      have hf : ∀ z ∈ fillB zs, CellOk z := fun z h => hz z (List.mem_filter.mp h).1
      refine ⟨_, rfl, D, _, rfl, .inl (SqL.of hD), _, 0, rfl, rfl, _, rfl, ?_⟩
      have lf : (sV (fillB zs)).length = (fillB zs).length := List.length_map ..
      by_cases hn : fillB zs = []
      · have e0 : decide (((sV (fillB zs)).length : Int) > 0) = false := decide_eq_false (by rw [hn]; simp)
        rw [e0]
        refine iteF ?_
        have e : rightB zs = false := by
          unfold rightB
          rw [decide_eq_false (fun q => q hn)]
          rfl
        rw [← e]
        exact k _ x1
      · have hp : 0 < (fillB zs).length := List.length_pos_iff.mpr hn
        have e0 : decide (((sV (fillB zs)).length : Int) > 0) = true := decide_eq_true (by omega)
        rw [e0]
        refine iteT ⟨_, rfl, D, rfl, ⟨_, SqL.of hD⟩, x1.tab _ hm, fun H2 hH2 => ?_⟩
        have x2 := Ex.tabbed x1.tab hm hH2
        have hR : rightB zs = (fillB zs).all figB := by
          unfold rightB
          rw [decide_eq_true hn, Bool.true_and]
        refine all_by (w := walk_list (a := D) (xs := sV (fillB zs))) (fun i => match (fillB zs)[i]? with | some z => figB z | none => true) (fun _ H' => Ex cs H H' ∧ H' D = some (.lst (sV (fillB zs)))) ⟨x1.trans x2, x2.ext _ _ hD fun ps q => by cases q⟩ (fun i H' _ x => SqL.of x.2) (fun i v H3 H4 hi x y Z hZ => ?_) (fun H3 x hall => ?_) (fun i H3 hi hff x => ?_)
        · obtain ⟨rfl, hv⟩ := y
          obtain ⟨z, hz2, rfl⟩ := get_map hv
          refine ⟨_, rfl, z, rfl, hf z (List.mem_of_getElem? hz2), ?_⟩
          have := hZ _ x
          rw [hz2] at this
          exact this
        · have e : rightB zs = true := by
            rw [hR, List.all_eq_true]
            intro z hzm
            obtain ⟨i, hi, e⟩ := List.getElem_of_mem hzm
            have q := hall i (by omega)
            rw [List.getElem?_eq_getElem hi, e] at q
            exact q
          rw [← e]
          exact k _ x.1
        · have e : rightB zs = false := by
            rw [hR, Bool.eq_false_iff]
            intro q
            rw [List.all_eq_true] at q
            have hi2 : i < (fillB zs).length := by omega
            rw [List.getElem?_eq_getElem hi2] at hff
            have := q _ (List.getElem_mem hi2)
            rw [show figB (fillB zs)[i] = false from hff] at this
            cases this
          rw [← e]
          exact k _ x.1
end
end TG
namespace TG
open PySem L2 Gx
def clB (rows : List (List Str)) (c i : Nat) : Bool := match rows[i]? with
  | some r => decide (c + 1 < r.length)
  | none => false
def hiB (rows : List (List Str)) (c i : Nat) : Nat := i + ((rows.drop i).takeWhile fun r => decide (c + 1 < r.length)).length
def stB (rows : List (List Str)) (c i : Nat) : Bool := clB rows c i && (decide (i = 0) || !clB rows c (i - 1))
def runsB (rows : List (List Str)) (c : Nat) : List (Nat × Nat) := ((List.range rows.length).filter (stB rows c)).map fun i => (i, hiB rows c i)
theorem hi_yes {rows : List (List Str)} {c i : Nat} (h : clB rows c i = true) : hiB rows c i = hiB rows c (i + 1) := by
  unfold clB at h
  cases e : rows[i]? with
  | none => rw [e] at h; cases h
  | some r =>
    rw [e] at h
    obtain ⟨hi, e2⟩ := List.getElem?_eq_some_iff.mp e
    have h' : decide (c + 1 < r.length) = true := h
    unfold hiB
    rw [List.drop_eq_getElem_cons hi, e2, List.takeWhile_cons, h', if_pos rfl, List.length_cons]
    omega
theorem hi_no {rows : List (List Str)} {c i : Nat} (h : clB rows c i = false) : hiB rows c i = i := by
  unfold clB at h
  unfold hiB
  cases e : rows[i]? with
  | none =>
    have hl : rows.length ≤ i := List.getElem?_eq_none_iff.mp e
    rw [List.drop_of_length_le hl]
    rfl
  | some r =>
    rw [e] at h
    obtain ⟨hi, e2⟩ := List.getElem?_eq_some_iff.mp e
    have h' : decide (c + 1 < r.length) = false := h
    rw [List.drop_eq_getElem_cons hi, e2, List.takeWhile_cons, h', if_neg Bool.false_ne_true]
    rfl
theorem hi_ge (rows : List (List Str)) (c i : Nat) : i ≤ hiB rows c i := Nat.le_add_right ..
theorem cl_lt {rows : List (List Str)} {c i : Nat} (h : clB rows c i = true) : i < rows.length := by
  unfold clB at h
  cases e : rows[i]? with
  | none => rw [e] at h; cases h
  | some r => exact (List.getElem?_eq_some_iff.mp e).1
theorem hi_le {rows : List (List Str)} {c i : Nat} (h : i ≤ rows.length) : hiB rows c i ≤ rows.length := by
  unfold hiB
  have := (List.takeWhile_prefix (l := rows.drop i) (fun r : List Str => decide (c + 1 < r.length))).length_le
  rw [List.length_drop] at this
  omega
theorem hi_in {rows : List (List Str)} {c : Nat} : ∀ (d i j : Nat), j = i + d → j < hiB rows c i → clB rows c j = true := by
  intro d
  induction d with
  | zero =>
    intro i j e h
    have e' : j = i := by omega
    subst e'
    cases hc : clB rows c j with
    | true => rfl
    | false =>
      rw [hi_no hc] at h
      omega
  | succ d ih =>
    intro i j e h
    cases hc : clB rows c i with
    | true =>
      rw [hi_yes hc] at h
      exact ih (i + 1) j (by omega) h
    | false =>
      rw [hi_no hc] at h
      omega
/-- one turn of the outer loop -/
theorem starts_turn {rows : List (List Str)} {c k : Nat} (hk : k = 0 ∨ clB rows c (k - 1) = false) :
    (List.range (hiB rows c k + 1)).filter (stB rows c) = (List.range k).filter (stB rows c) ++ (if clB rows c k = true then [k] else []) := by
  have key : ∀ d, k + d ≤ hiB rows c k → (List.range (k + d + 1)).filter (stB rows c) = (List.range k).filter (stB rows c) ++ (if clB rows c k = true then [k] else []) := by
    intro d
    induction d with
    | zero =>
      intro _
      rw [Nat.add_zero, List.range_succ, List.filter_append]
      congr 1
      have e : stB rows c k = clB rows c k := by
        unfold stB
        rcases hk with h | h
        · rw [decide_eq_true h]; simp
        · rw [h]; simp
      by_cases hc : clB rows c k = true
      · rw [if_pos hc]
        simp [e, hc]
      · rw [if_neg hc]
        simp [e, hc]
    | succ d ih =>
      intro hle
      rw [← Nat.add_assoc, List.range_succ, List.filter_append, ih (by omega)]
      have h1 : clB rows c (k + d) = true := hi_in d k (k + d) rfl (by omega)
      have e : stB rows c (k + d + 1) = false := by
        unfold stB
        rw [Nat.add_sub_cancel, h1, decide_eq_false (by omega)]
        simp
      simp [e]
  have h0 := hi_ge rows c k
  have := key (hiB rows c k - k) (by omega)
  rw [show k + (hiB rows c k - k) + 1 = hiB rows c k + 1 by omega] at this
  exact this
theorem starts_end {rows : List (List Str)} {c k : Nat} (h1 : rows.length ≤ k) : (List.range k).filter (stB rows c) = (List.range rows.length).filter (stB rows c) := by
  obtain ⟨d, rfl⟩ : ∃ d, k = rows.length + d := ⟨k - rows.length, by omega⟩
  clear h1
  induction d with
  | zero => rfl
  | succ d ih =>
    rw [← Nat.add_assoc, List.range_succ, List.filter_append, ih]
    have e : stB rows c (rows.length + d) = false := by
      unfold stB
      cases hc : clB rows c (rows.length + d) with
      | true => have := cl_lt hc; omega
      | false => rfl
    simp [e]
/-- pairs of numbers at ts -/
structure PairsAt (H : Hp) (ts : List Addr) (ps : List (Nat × Nat)) : Prop where
  len : ts.length = ps.length
  at_ : ∀ (i : Nat) (t : Addr) (p : Nat × Nat), ts[i]? = some t → ps[i]? = some p → H t = some (.tup [.int (p.1 : Nat), .int (p.2 : Nat)])
theorem PairsAt.snoc {H : Hp} {ts : List Addr} {ps : List (Nat × Nat)} {t : Addr} {p : Nat × Nat} (h : PairsAt H ts ps) (e : H t = some (.tup [.int (p.1 : Nat), .int (p.2 : Nat)])) : PairsAt H (ts ++ [t]) (ps ++ [p]) := by
  refine ⟨by rw [List.length_append, List.length_append, h.len]; rfl, fun i u q h1 h2 => ?_⟩
  by_cases hi : i < ts.length
  · rw [List.getElem?_append_left hi] at h1
    rw [List.getElem?_append_left (by rw [← h.len]; exact hi)] at h2
    exact h.at_ i u q h1 h2
  · have hl := (List.getElem?_eq_some_iff.mp h1).1
    rw [List.length_append, List.length_singleton] at hl
    have e1 : i = ts.length := by omega
    subst e1
    rw [List.getElem?_append_right (Nat.le_refl _), Nat.sub_self] at h1
    rw [h.len, List.getElem?_append_right (Nat.le_refl _), Nat.sub_self] at h2
    cases h1
    cases h2
    exact e
theorem PairsAt.keep {H H' : Hp} {ts : List Addr} {ps : List (Nat × Nat)} (h : PairsAt H ts ps) (k : ∀ b xs, H b = some (.tup xs) → H' b = some (.tup xs)) : PairsAt H' ts ps := ⟨h.len, fun i t p h1 h2 => k _ _ (h.at_ i t p h1 h2)⟩
section
variable {P : Program} {w : World} {K : PySem.W.Frag} {mg : Str → Option Value} {base : Heap} {cs : List (Addr × Addr)}
def spClosed (K : PySem.W.Frag) : Sp := fun vs H Q _ => ∃ (p : Addr) (r : List Str) (c : Nat), vs = [.ref p, .int (c : Nat)] ∧ SqT K H p (sV r) ∧ Q (.bl (decide (c + 1 < r.length))) H
theorem sc_closed : FnScope ["row", "column"] ["row", "column"] (defScope s_is_closed) := ⟨rfl, rfl, rfl, by decide +kernel, rfl, by decide +kernel, by decide +kernel⟩
theorem ok_closed {f : Addr} {fd : FuncData} (T : Txt mg) (F : Fun K "is_closed" "is_closed" s_is_closed f fd) : FnOk P w K mg base CX0 1 f fd ["row", "column"] (spClosed K) := by
  refine F.ok sc_closed (fun vs H Q E h => ?_) (fun cdv A outer s H vs Q E hr h => ?_)
  · obtain ⟨p, r, c, rfl, _⟩ := h
    rfl
  · obtain ⟨p, r, c, rfl, hS, k⟩ := h
    refine ⟨_, pss_one (ps_ret (pe_cmpR op_lt (pe_op op_add (pv 1) pe_int) (pe_callB call_len_seq (by rfl) T.len PySem.boot_len (pa_cons (pv 0) pa_nil)) (nomark _))), ?_⟩
    refine ⟨_, rfl, c, 1, rfl, rfl, _, rfl, p, _, rfl, .inr hS, _, _, rfl, rfl, ?_⟩
    have ls : (sV r).length = r.length := List.length_map ..
    have e : decide ((c : Int) + 1 < ((sV r).length : Int)) = decide (c + 1 < r.length) := by
      rw [ls]
      by_cases h : c + 1 < r.length
      · rw [decide_eq_true h, decide_eq_true (by omega)]
      · rw [decide_eq_false h, decide_eq_false (by omega)]
    show Q (.bl (decide ((c : Int) + 1 < ((sV r).length : Int)))) H
    rw [e]
    exact k
def spRuns (K : PySem.W.Frag) (cs : List (Addr × Addr)) : Sp := fun vs H Q _ => ∃ (a : Addr) (as : List Addr) (rows : List (List Str)) (c : Nat), vs = [.ref a, .int (c : Nat)] ∧ Tabs cs H ∧ PageAt K H a as rows ∧ rows.length ≤ 30 ∧
  ∀ (r : Addr) (ts : List Addr) (H' : Hp), Ex cs H H' → H r = none → H' r = some (.lst (ts.map V.ref)) → PairsAt H' ts (runsB rows c) → Q (.ref r) H'
theorem sc_runs : FnScope ["page", "column", "runs", "begin", "end"] ["page", "column"] (defScope s_closed_runs) := ⟨rfl, rfl, rfl, by decide +kernel, rfl, by decide +kernel, by decide +kernel⟩
theorem ok_runs {f g : Addr} {fd fdg : FuncData} (T : Txt mg) (F : Fun K "closed_runs" "closed_runs" s_closed_runs f fd)
    (G : FnOk P w K mg base CX0 1 g fdg ["row", "column"] (spClosed K)) (kp : PySem.W.keepIn K (.ref g) = true) (bd : Binds K fdg ["row", "column"] []) (mgg : mg "is_closed" = some (.ref g)) : FnOk P w K mg base CX0 2 f fd ["page", "column"] (spRuns K cs) := by
  refine F.ok sc_runs (fun vs H Q E h => ?_) (fun cdv A outer s H vs Q E hr h => ?_)
  · obtain ⟨a, as, rows, c, rfl, _⟩ := h
    rfl
  · obtain ⟨a, as, rows, c, rfl, hT, hP, hn, k⟩ := h
    have nd := sc_runs.nd
    refine ⟨_, pss_cons (ps_set (i := 2) nd rfl (.inl rfl) (pe_lst pa_nil)) (pss_cons (ps_set (i := 3) nd rfl (.inl rfl) pe_int)
      (pss_cons (ps_while PassesOwn.never (pt_cmpR op_lt (pv 3) (pe_callB call_len_seq (by rfl) T.len PySem.boot_len (pa_cons (pv 0) pa_nil)) (nomark _))
        (pss_cons (ps_set (i := 4) nd rfl (.inl rfl) (pv 3))
        (pss_cons (ps_while PassesOwn.never (PW.pt (pw_and (pt_cmpR op_lt (pv 4) (pe_callB call_len_seq (by rfl) T.len PySem.boot_len (pa_cons (pv 0) pa_nil)) (nomark _)) (pw_and1 (pt_val (pe_call G hr (by rfl) mgg kp bd .nil pass0 (pa_cons (pe_ix ix_list (pv 0) (pv 4) (fun _ _ => rfl)) (pa_cons (pv 1) pa_nil)))))))
            (pss_one (ps_aug (i := 4) nd rfl (.inl rfl) pe_int ip_add)))
        (pss_cons (ps_if (pt_cmpR op_gt (pv 4) (pv 3) (nomark _)) (pss_one (ps_expr (pe_bm PySem.F.plainAttrs_list PySem.F.slot_list_append PySem.F.type_list_append mt_append (pv 2) (pa_cons (pe_tup (pa_cons (pv 3) (pa_cons (pv 4) pa_nil))) pa_nil)))) pss_nil)
        (pss_one (ps_set (i := 3) nd rfl (.inl rfl) (pe_op op_add (pv 4) pe_int)))))))
      (pss_one (ps_ret (pv 2))))), ?_⟩
    refine ⟨small0, fun p np => ?_⟩
    -- the outer loop
    let runsAt : Nat → List (Nat × Nat) := fun k => ((List.range k).filter (stB rows c)).map fun i => (i, hiB rows c i)
    let Out : Nat → L2.St → Hp → Prop := fun m σ H1 => ∃ (b : Nat) (ts : List Addr) (e : Option V), σ = [some (.ref a), some (.int (c : Nat)), some (.ref p), some (.int (b : Nat)), e] ∧ m = rows.length + 1 - b ∧ b ≤ rows.length + 1 ∧ (b = 0 ∨ clB rows c (b - 1) = false) ∧ Ex cs H H1 ∧ H1 p = some (.lst (ts.map V.ref)) ∧ PairsAt H1 ts (runsAt b)
    refine ⟨Out, ⟨_, 0, [], none, rfl, rfl, Nat.zero_le _, .inl rfl, Ex.laid hT np, upd_same, rfl, fun i t q h => by simp at h⟩, ?_⟩
    rintro m σ H1 ⟨b, ts, e, rfl, rfl, hb, hst, x1, hp1, pr⟩
    have hl : (as.map V.ref).length = rows.length := by rw [List.length_map]; exact hP.len
    refine ⟨_, rfl, _, rfl, a, _, rfl, .inl (x1.sqL hP.lst), _, _, rfl, rfl, _, rfl, ?_⟩
    by_cases hlt : b < rows.length
    · rw [decide_eq_true (show (b : Int) < ((as.map V.ref).length : Int) by omega)]
      refine iteT ⟨Out (rows.length + 1 - (hiB rows c b + 1)), fun σ' H' o => ⟨_, by have := hi_ge rows c b; omega, o⟩, ?_⟩
      refine ⟨_, rfl, ?_⟩
      let Inn : Nat → L2.St → Hp → Prop := fun m σ H2 => ∃ e : Nat, σ = [some (.ref a), some (.int (c : Nat)), some (.ref p), some (.int (b : Nat)), some (.int (e : Nat))] ∧ m = rows.length - e ∧ b ≤ e ∧ e ≤ rows.length ∧ hiB rows c e = hiB rows c b ∧ H2 = H1
      refine ⟨Inn, ⟨_, b, rfl, rfl, Nat.le_refl _, Nat.le_of_lt hlt, rfl, rfl⟩, ?_⟩
      rintro m2 σ2 H2 ⟨e2, rfl, rfl, h1, h2, h3, rfl⟩
      refine ⟨_, rfl, _, rfl, a, _, rfl, .inl (x1.sqL hP.lst), _, _, rfl, rfl, _, rfl, ?_⟩
      have hsz : (ts.map V.ref).length < sizeLine := by
        have q1 : (runsAt b).length ≤ (List.range b).length := by
          show (((List.range b).filter (stB rows c)).map _).length ≤ _
          rw [List.length_map]
          exact List.length_filter_le ..
        rw [List.length_range] at q1
        rw [List.length_map, pr.len]
        have : (1000 : Nat) < sizeLine := by decide
        omega
      cases hcl : clB rows c e2 with
      | true =>
        have hlt2 := cl_lt hcl
        obtain ⟨q, hq⟩ := getP (xs := as) (i := e2) (by rw [hP.len]; exact hlt2)
        obtain ⟨r, hr2⟩ := getP hlt2
        have hcr : decide (c + 1 < r.length) = true := by
          unfold clB at hcl
          rw [hr2] at hcl
          exact hcl
        rw [decide_eq_true (show (e2 : Int) < ((as.map V.ref).length : Int) by omega)]
        refine iteT ⟨_, rfl, _, rfl, a, _, e2, .ref q, rfl, rfl, x1.sqL hP.lst, atI_nat (by rw [List.getElem?_map, hq]; rfl), _, rfl, q, r, c, rfl, x1.sqT (hP.row e2 q r hq hr2), true, by rw [hcr], iteT ?_⟩
        refine ⟨Inn (rows.length - (e2 + 1)), fun σ' H' o => ⟨_, by omega, o⟩, _, rfl, e2, 1, rfl, rfl, e2 + 1, rfl, rfl, by omega, by omega, by rw [← hi_yes hcl]; exact h3, rfl⟩
      | false =>
        have hnc := hcl
        have he : hiB rows c b = e2 := h3.symm.trans (hi_no hnc)
        by_cases hlt2 : e2 < rows.length
        · obtain ⟨q, hq⟩ := getP (xs := as) (i := e2) (by rw [hP.len]; exact hlt2)
          obtain ⟨r, hr2⟩ := getP hlt2
          have hcr : decide (c + 1 < r.length) = false := by
            unfold clB at hcl
            rw [hr2] at hcl
            exact hcl
          rw [decide_eq_true (show (e2 : Int) < ((as.map V.ref).length : Int) by omega)]
          refine iteT ⟨_, rfl, _, rfl, a, _, e2, .ref q, rfl, rfl, x1.sqL hP.lst, atI_nat (by rw [List.getElem?_map, hq]; rfl), _, rfl, q, r, c, rfl, x1.sqT (hP.row e2 q r hq hr2), false, by rw [hcr], iteF ?_⟩
          refine ⟨_, rfl, _, rfl, _, _, rfl, rfl, _, rfl, ?_⟩
          by_cases hgt : b < e2
          · rw [decide_eq_true (show (b : Int) < (e2 : Int) by omega)]
            refine iteT ⟨_, rfl, .inl ⟨rfl, _, SqL.of hp1⟩, _, rfl, _, rfl, (by show 2 ≤ sizeLine; decide), fun t nt => ⟨p, ts.map V.ref, .ref t, rfl, rfl, (by rw [upd_ne (ne_of_none hp1 nt)]; exact hp1), hsz, ?_⟩⟩
            refine ⟨_, rfl, e2, 1, rfl, rfl, ?_⟩
            have ntp : t ≠ p := fun z => by rw [z, hp1] at nt; cases nt
            have eR : runsAt (e2 + 1) = runsAt b ++ [(b, e2)] := by
              show ((List.range (e2 + 1)).filter (stB rows c)).map _ = _
              rw [← he, starts_turn hst, if_pos (hi_in 0 b b rfl (by omega)), List.map_append]
              rfl
            refine ⟨e2 + 1, ts ++ [t], some (.int (e2 : Nat)), rfl, by omega, by omega, .inr (by rw [Nat.add_sub_cancel]; exact hnc), ex_new hT (x1.trans (Ex.laid x1.tab nt)) np, ?_, ?_⟩
            · rw [upd_same, List.map_append]; rfl
            · rw [eR]
              refine (pr.keep fun q xs h => ?_).snoc ?_
              · rw [upd_ne (fun z => by rw [z, hp1] at h; cases h), upd_ne (ne_of_none h nt)]; exact h
              · rw [upd_ne ntp, upd_same]
          · rw [decide_eq_false (show ¬ (b : Int) < (e2 : Int) by omega)]
            refine iteF ⟨_, rfl, e2, 1, rfl, rfl, ?_⟩
            have eR : runsAt (e2 + 1) = runsAt b := by
              show ((List.range (e2 + 1)).filter (stB rows c)).map _ = _
              rw [← he, starts_turn hst, if_neg (fun z => by rw [hi_yes z] at he; have := hi_ge rows c (b + 1); omega), List.append_nil]
            refine ⟨e2 + 1, ts, some (.int (e2 : Nat)), rfl, by omega, by omega, .inr (by rw [Nat.add_sub_cancel]; exact hnc), x1, hp1, ?_⟩
            rw [eR]
            exact pr

        · rw [decide_eq_false (show ¬ (e2 : Int) < ((as.map V.ref).length : Int) by omega)]
          refine iteF (iteF ?_)
          refine ⟨_, rfl, _, rfl, _, _, rfl, rfl, _, rfl, ?_⟩
          by_cases hgt : b < e2
          · rw [decide_eq_true (show (b : Int) < (e2 : Int) by omega)]
            refine iteT ⟨_, rfl, .inl ⟨rfl, _, SqL.of hp1⟩, _, rfl, _, rfl, (by show 2 ≤ sizeLine; decide), fun t nt => ⟨p, ts.map V.ref, .ref t, rfl, rfl, (by rw [upd_ne (ne_of_none hp1 nt)]; exact hp1), hsz, ?_⟩⟩
            refine ⟨_, rfl, e2, 1, rfl, rfl, ?_⟩
            have ntp : t ≠ p := fun z => by rw [z, hp1] at nt; cases nt
            have eR : runsAt (e2 + 1) = runsAt b ++ [(b, e2)] := by
              show ((List.range (e2 + 1)).filter (stB rows c)).map _ = _
              rw [← he, starts_turn hst, if_pos (hi_in 0 b b rfl (by omega)), List.map_append]
              rfl
            refine ⟨e2 + 1, ts ++ [t], some (.int (e2 : Nat)), rfl, by omega, by omega, .inr (by rw [Nat.add_sub_cancel]; exact hnc), ex_new hT (x1.trans (Ex.laid x1.tab nt)) np, ?_, ?_⟩
            · rw [upd_same, List.map_append]; rfl
            · rw [eR]
              refine (pr.keep fun q xs h => ?_).snoc ?_
              · rw [upd_ne (fun z => by rw [z, hp1] at h; cases h), upd_ne (ne_of_none h nt)]; exact h
              · rw [upd_ne ntp, upd_same]
          · rw [decide_eq_false (show ¬ (b : Int) < (e2 : Int) by omega)]
            refine iteF ⟨_, rfl, e2, 1, rfl, rfl, ?_⟩
            have eR : runsAt (e2 + 1) = runsAt b := by
              show ((List.range (e2 + 1)).filter (stB rows c)).map _ = _
              rw [← he, starts_turn hst, if_neg (fun z => by rw [hi_yes z] at he; have := hi_ge rows c (b + 1); omega), List.append_nil]
            refine ⟨e2 + 1, ts, some (.int (e2 : Nat)), rfl, by omega, by omega, .inr (by rw [Nat.add_sub_cancel]; exact hnc), x1, hp1, ?_⟩
            rw [eR]
            exact pr
    · rw [decide_eq_false (show ¬ (b : Int) < ((as.map V.ref).length : Int) by omega)]
      refine iteF ⟨_, rfl, ?_⟩
      refine k p ts H1 x1 np hp1 ?_
      have e1 : runsAt b = runsB rows c := by
        show ((List.range b).filter (stB rows c)).map _ = _
        rw [starts_end (by omega)]
        rfl
      rw [← e1]
      exact pr
end
end TG
namespace TG
open PySem L2 Gx
abbrev nilS : Str := ⟨#[]⟩
def cellsB (rows : List (List Str)) (c b e : Nat) : List Str := ((rows.drop b).take (e - b)).map fun r => r.getD c nilS
def longB : List Str → Nat
  | [] => 0
  | z :: zs => max z.length (longB zs)
def widthB (zs : List Str) (gap least : Int) : Int := if least > (longB zs : Int) + gap then least else (longB zs : Int) + gap
def holdB (zs : List Str) (b : Nat) (gap least : Int) : List Int := if least < (longB zs : Int) + gap then ((List.range zs.length).filter fun i => decide ((zs.getD i nilS).length = longB zs)).map fun i => ((b + i : Nat) : Int) else []
theorem long_ge : ∀ {zs : List Str} {z : Str}, z ∈ zs → z.length ≤ longB zs
  | y :: zs, z, h => by
    rcases List.mem_cons.mp h with e | e
    · subst e; exact Nat.le_max_left _ _
    · exact Nat.le_trans (long_ge e) (Nat.le_max_right _ _)
theorem long_in : ∀ {zs : List Str}, zs ≠ [] → ∃ z ∈ zs, z.length = longB zs
  | [z], _ => ⟨z, List.mem_singleton.mpr rfl, by simp [longB]⟩
  | z :: y :: zs, _ => by
    obtain ⟨x, hx, e⟩ := long_in (zs := y :: zs) (by simp)
    by_cases h : longB (y :: zs) ≤ z.length
    · exact ⟨z, List.mem_cons_self, (Nat.max_eq_left h).symm⟩
    · exact ⟨x, List.mem_cons_of_mem _ hx, by rw [e]; exact (Nat.max_eq_right (by omega)).symm⟩
theorem cells_len {rows : List (List Str)} {c b e : Nat} (h : e ≤ rows.length) : (cellsB rows c b e).length = e - b := by
  unfold cellsB
  rw [List.length_map, List.length_take, List.length_drop]
  omega
theorem cells_get {rows : List (List Str)} {c b e i : Nat} (h : b + i < e) {r : List Str} (hr : rows[b + i]? = some r) : (cellsB rows c b e)[i]? = some (r.getD c nilS) := by
  unfold cellsB
  rw [List.getElem?_map, List.getElem?_take_of_lt (by omega), List.getElem?_drop, hr]
  rfl
theorem cells_mem {rows : List (List Str)} {c b e : Nat} (hO : PgOk rows) (hc : ∀ i, b ≤ i → i < e → clB rows c i = true) (he : e ≤ rows.length) {z : Str} (h : z ∈ cellsB rows c b e) : CellOk z := by
  obtain ⟨i, hi, e1⟩ := List.getElem_of_mem h
  rw [cells_len he] at hi
  obtain ⟨r, hr⟩ := getP (xs := rows) (i := b + i) (by omega)
  have q := cells_get (c := c) (b := b) (e := e) (i := i) (by omega) hr
  have hcl := hc (b + i) (by omega) (by omega)
  unfold clB at hcl
  rw [hr] at hcl
  have hcr : c + 1 < r.length := of_decide_eq_true hcl
  rw [List.getElem?_eq_getElem (by rw [cells_len he]; exact hi), e1] at q
  cases q
  have := (hO.rows r (List.mem_of_getElem? hr)).cells (r[c]'(by omega)) (List.getElem_mem _)
  rw [List.getD_eq_getElem?_getD, List.getElem?_eq_getElem (by omega)]
  exact this
theorem cut_mid {xs : List V} {b e : Nat} (h1 : b ≤ e) (h2 : e ≤ xs.length) : cutV xs (some (b : Int)) (some (e : Int)) = (xs.drop b).take (e - b) := by
  unfold cutV
  rw [HT.sIx_nat, HT.sIx_nat, Nat.min_eq_left h2, Nat.min_eq_left (Nat.le_trans h1 h2)]
section
variable {P : Program} {w : World} {K : PySem.W.Frag} {mg : Str → Option Value} {base : Heap} {cs : List (Addr × Addr)}
/-- the told tuple at t, its holders at h -/
def DescAt (H : Hp) (t h : Addr) (c b e : Nat) (zs : List Str) (gap least : Int) : Prop :=
  H t = some (.tup [.int (c : Nat), .int (b : Nat), .int (e : Nat), .int (widthB zs gap least), .bl (rightB zs), .ref h]) ∧ H h = some (.lst ((holdB zs b gap least).map V.int))
def spDesc (K : PySem.W.Frag) (cs : List (Addr × Addr)) : Sp := fun vs H Q _ => ∃ (a st : Addr) (as : List Addr) (rows : List (List Str)) (gap least : Int) (c b e : Nat), vs = [.ref a, .ref st, .int (c : Nat), .int (b : Nat), .int (e : Nat)] ∧ Tabs cs H ∧ PageAt K H a as rows ∧ PgOk rows ∧ StyleAt K H st gap least ∧
  b < e ∧ e ≤ rows.length ∧ (∀ i, b ≤ i → i < e → clB rows c i = true) ∧ ∀ (t h : Addr) (H' : Hp), Ex cs H H' → H t = none → H h = none → DescAt H' t h c b e (cellsB rows c b e) gap least → Q (.ref t) H'
theorem sc_desc : FnScope ["page", "style", "column", "begin", "end", "gap", "least", "cells", "longest", "holders", "row", "at", "cell"] ["page", "style", "column", "begin", "end"] (defScope s_described) := ⟨rfl, rfl, rfl, by decide +kernel, rfl, by decide +kernel, by decide +kernel⟩
theorem ok_desc {f c Pt g : Addr} {fd fdg : FuncData} (T : Txt mg) (F : Fun K "described" "described" s_described f fd) (hc : fd.code = .ref c) (TB : GxR.TabB base mg c Pt) (hm : (c, Pt) ∈ cs)
    (G : FnOk P w K mg base CX0 5 g fdg ["cells"] (spRight K cs)) (kp : PySem.W.keepIn K (.ref g) = true) (bd : Binds K fdg ["cells"] []) (mgg : mg "stands_right" = some (.ref g)) : FnOk P w K mg base CX0 6 f fd ["page", "style", "column", "begin", "end"] (spDesc K cs) := by
  refine fun_okT F hc sc_desc (fun vs H Q E h => ?_) (fun A outer s H vs Q E hr h => ?_)
  · obtain ⟨a, st, as, rows, gap, least, cc, b, e, rfl, _⟩ := h
    rfl
  · obtain ⟨a, st, as, rows, gap, least, cc, b, e, rfl, hT, hP, hO, ⟨hS, _⟩, hbe, hen, hcl, k⟩ := h
    have nd := sc_desc.nd
    refine ⟨_, pss_cons (ps_asg (pv 1) (pg_tup rfl (pgs_cons (pg_name (i := 5) nd rfl (.inl rfl)) (pgs_cons (pg_name (i := 6) nd rfl (.inl rfl)) pgs_nil))))
      (pss_cons (ps_setLc (i := 7) (own := [("row", 10)]) (g := gName 10) rfl nd rfl rfl (sw_true rfl rfl rfl (by decide +kernel)) (pi_list (pe_slice sl_list (pv 0) (po_some (pv 3)) (po_some (pv 4)))) (blkOk_by (own := [("row", 10)]) (N := ["page", "style", "column", "begin", "end", "gap", "least", "cells", "longest", "holders", "row", "at", "cell"]) (sc := defScope s_described) (by decide +kernel))
        (fun _ _ _ _ _ => pg_name (i := 10) nd rfl (Or.inl rfl)) (fun _ _ _ _ _ => pts_nil) (fun _ _ _ _ _ => pe_ix (r := rIxT K) ix_tup (pv 10) (pv 2) (fun _ _ => rfl)))
      (pss_cons (ps_set (i := 8) nd rfl (.inr rfl) (pe_maxG (k := 0) (P := Pt) (hr.mono (by decide)) (by rfl) T.max TB rfl ⟨rfl, rfl, by decide +kernel, by decide +kernel, rfl, rfl⟩ (pi_list (pv 7)) (fun A' code s4 H4 fp hr' => pe_callB call_len_str (by rfl) T.len PySem.boot_len (pa_cons (pv 0) pa_nil)) (fun _ => rfl)))
      (pss_cons (ps_set (i := 9) nd rfl (.inl rfl) (pe_lst pa_nil))
      (pss_cons (ps_if (pt_cmpR op_gt (pe_op op_add (pv 8) (pv 5)) (pv 6) (nomark _))
        (pss_one (ps_setLc (i := 9) (own := [("at", 11), ("cell", 12)]) (g := gTup K 2 (gCons (gName 11) (gCons (gName 12) gNil))) rfl nd rfl rfl (sw_true rfl rfl rfl (by decide +kernel)) (pi_enum (by rfl) T.enum (pa_cons (pv 7) pa_nil)) (blkOk_by (own := [("at", 11), ("cell", 12)]) (N := ["page", "style", "column", "begin", "end", "gap", "least", "cells", "longest", "holders", "row", "at", "cell"]) (sc := defScope s_described) (by decide +kernel))
          (fun _ _ _ _ _ => pg_tup rfl (pgs_cons (pg_name (i := 11) nd rfl (.inl rfl) (.inr rfl)) (pgs_cons (pg_name (i := 12) nd rfl (.inl rfl) (.inr rfl)) pgs_nil))) (fun _ _ _ _ _ => pts_one (pt_cmpR op_eq (pe_callB call_len_str (by rfl) T.len PySem.boot_len (pa_cons (pv 12) pa_nil)) (pv 8) (nomark _))) (fun _ _ _ _ _ => pe_op op_add (pv 3) (pv 11)))) pss_nil)
      (pss_one (ps_ret (pe_tup (pa_cons (pv 2) (pa_cons (pv 3) (pa_cons (pv 4) (pa_cons (pe_callB (call_max2 rfl) (by rfl) T.max (by decide +kernel) (pa_cons (pe_op op_add (pv 8) (pv 5)) (pa_cons (pv 6) pa_nil))) (pa_cons (pe_call G hr (by rfl) mgg kp bd .nil pass0 (pa_cons (pv 7) pa_nil)) (pa_cons (pv 9) pa_nil))))))))))))), ?_⟩
    have hL : cutV (as.map V.ref) (some (b : Int)) (some (e : Int)) = ((as.drop b).take (e - b)).map V.ref := by
      rw [cut_mid (by omega) (by rw [List.length_map, hP.len]; exact hen), ← List.map_drop, ← List.map_take]
    have lc := cells_len (c := cc) (b := b) hen
    have ll := hO.len
    have lsz : (1000 : Nat) < sizeLine := by decide
    have lsV : (sV (cellsB rows cc b e)).length = e - b := by rw [List.length_map, lc]
    have sll : ((as.drop b).take (e - b)).length = e - b := by rw [List.length_take, List.length_drop, hP.len]; omega
    refine ⟨_, rfl, st, _, rfl, hS, rfl, _, _, rfl, _, _, rfl, rfl, ?_⟩
    refine ⟨_, rfl, _, rfl, (b : Int), rfl, _, rfl, (e : Int), rfl, a, _, rfl, hP.lst, fun p np => ?_⟩
    rw [hL]
    refine ⟨p, rfl, ⟨_, SqL.of upd_same⟩, fun D nD => lc_list (xs := ((as.drop b).take (e - b)).map V.ref) (fun i H' => Ex cs H H' ∧ H' p = some (.lst (((as.drop b).take (e - b)).map V.ref)) ∧ H' D = some (.lst (sV ((cellsB rows cc b e).take i)))) ?_ (fun i H' _ x => SqL.of x.2.1) ?_ ?_⟩
    · have x1 := Ex.laid (o := .lst (((as.drop b).take (e - b)).map V.ref)) hT np
      exact ⟨x1.trans (Ex.laid x1.tab nD), by rw [upd_ne (fun z => by rw [← z, upd_same] at nD; cases nD), upd_same], upd_same⟩
    · rintro i v H1 hv ⟨x1, hp, hD⟩
      obtain ⟨q, hq, rfl⟩ := get_map hv
      have hi : i < e - b := by have := (List.getElem?_eq_some_iff.mp hq).1; omega
      rw [List.getElem?_take_of_lt hi, List.getElem?_drop] at hq
      obtain ⟨r, hr2⟩ := getP (xs := rows) (i := b + i) (by omega)
      have hc1 := hcl (b + i) (by omega) (by omega)
      unfold clB at hc1
      rw [hr2] at hc1
      have hcr : cc + 1 < r.length := of_decide_eq_true hc1
      have hz : (sV r)[cc]? = some (V.str (r.getD cc nilS)) := by
        rw [List.getElem?_map, List.getD_eq_getElem?_getD, List.getElem?_eq_getElem (by omega)]; rfl
      have nD0 : H D = none := (Ex.laid (o := .lst (((as.drop b).take (e - b)).map V.ref)) hT np).old _ nD
      refine ⟨rfl, _, rfl, _, rfl, q, sV r, cc, _, rfl, rfl, x1.sqT (hP.row _ q r hq hr2), atI_nat hz, _, hD, ?_, ex_new hT x1 nD0, ?_, ?_⟩
      · rw [List.length_map, List.length_take]; omega
      · rw [upd_ne (fun z => by rw [← z, upd_same] at nD; cases nD)]; exact hp
      · rw [upd_same, List.take_add_one, cells_get (by omega) hr2]
        simp [sV]
    · rintro H1 ⟨x1, hp, hD⟩
      rw [List.length_map, sll, ← lc, List.take_of_length_le (Nat.le_refl _)] at hD
      -- longest
      refine ⟨_, rfl, D, rfl, ⟨_, SqL.of hD⟩, x1.tab _ hm, fun H2 hH2 => ?_⟩
      have x2 := x1.trans (Ex.tabbed x1.tab hm hH2)
      have hD2 := (Ex.tabbed x1.tab hm hH2).lst hD
      refine max_by (w := walk_list (a := D) (xs := sV (cellsB rows cc b e))) (fun i => ((((cellsB rows cc b e).getD i nilS).length : Nat) : Int)) (by omega) (fun _ H' => Ex cs H H' ∧ H' D = some (.lst (sV (cellsB rows cc b e)))) ⟨x2, hD2⟩ (fun i H' _ x => SqL.of x.2) (fun i v H3 H4 hi x y Z hZ => ?_) (fun m H3 x3 hex hall => ?_)
      · obtain ⟨rfl, hv⟩ := y
        obtain ⟨z, hz, rfl⟩ := get_map hv
        refine ⟨_, rfl, z, rfl, line10 (by have := (cells_mem hO hcl hen (List.mem_of_getElem? hz)).len; omega), ?_⟩
        have q := hZ _ x
        have ez : (cellsB rows cc b e).getD i nilS = z := by rw [List.getD_eq_getElem?_getD, hz]; rfl
        rw [ez] at q
        exact q
      · obtain ⟨x3, hD3⟩ := x3
        have em : m = ((longB (cellsB rows cc b e) : Nat) : Int) := by
          obtain ⟨i, hi, e1⟩ := hex
          obtain ⟨z, hz, e2⟩ := long_in (zs := cellsB rows cc b e) (fun q => by rw [q] at lc; simp at lc; omega)
          obtain ⟨j, hj, e3⟩ := List.getElem_of_mem hz
          have h1 := hall j (by omega)
          rw [List.getD_eq_getElem?_getD, List.getElem?_eq_getElem hj, e3] at h1
          have h1' : ((z.length : Nat) : Int) ≤ m := h1
          rw [List.getD_eq_getElem?_getD, List.getElem?_eq_getElem (by omega)] at e1
          have h2 := long_ge (List.getElem_mem (l := cellsB rows cc b e) (show i < _ by omega))
          have e1' : (((cellsB rows cc b e)[i]'(by omega)).length : Int) = m := e1
          omega
        subst em
        refine ⟨small0, fun h0 nh0 => ?_⟩
        have x4 := x3.trans (Ex.laid (o := .lst []) x3.tab nh0)
        have hD4 := (Ex.laid (o := .lst []) x3.tab nh0).lst hD3
        refine ⟨_, rfl, _, rfl, _, _, rfl, rfl, _, rfl, _, _, rfl, rfl, _, rfl, ?_⟩
        by_cases hg : least < ((longB (cellsB rows cc b e) : Nat) : Int) + gap
        · rw [decide_eq_true hg]
          refine iteT ⟨_, rfl, D, _, rfl, SqL.of hD4, fun D2 nD2 => lc_it (walk_enum (xs := sV (cellsB rows cc b e))) (fun i H' => Ex cs H H' ∧ H' D = some (.lst (sV (cellsB rows cc b e))) ∧ H' D2 = some (.lst (((List.range i).filter fun j => decide (((cellsB rows cc b e).getD j nilS).length = longB (cellsB rows cc b e))).map fun j => V.int ((b + j : Nat) : Int)))) ?_ (fun i H' _ x => SqL.of x.2.1) ?_ ?_⟩
          · exact ⟨x4.trans (Ex.laid x4.tab nD2), (Ex.laid x4.tab nD2).lst hD4, upd_same⟩
          · rintro i v H5 H6 hi ⟨x5, hD5, hh⟩ ⟨Tp, v1, u, rfl, hn, rfl, hv, hu⟩
            cases hv
            obtain ⟨z, hz, rfl⟩ := get_map hu
            have xl := Ex.laid (o := .tup [.int (i : Nat), .str z]) x5.tab hn
            have ez : (cellsB rows cc b e).getD i nilS = z := by rw [List.getD_eq_getElem?_getD, hz]; rfl
            have zl := (cells_mem hO hcl hen (List.mem_of_getElem? hz)).len
            refine ⟨Tp, _, rfl, .inl (.inl upd_same), rfl, _, _, rfl, _, _, rfl, rfl, rfl, _, rfl, z, rfl, line10 (by omega), _, rfl, rfl, _, rfl, ?_⟩
            have nD20 := x4.old _ nD2
            by_cases hzl : z.length = longB (cellsB rows cc b e)
            · rw [decide_eq_true (show V.int ((z.length : Nat) : Int) = V.int ((longB (cellsB rows cc b e) : Nat) : Int) by rw [hzl])]
              refine iteT ⟨_, rfl, _, rfl, _, _, rfl, rfl, _, xl.lst hh, ?_, ex_new hT (x5.trans xl) nD20, ?_, ?_⟩
              · have q : ((List.range i).filter fun j => decide (((cellsB rows cc b e).getD j nilS).length = longB (cellsB rows cc b e))).length ≤ (List.range i).length := List.length_filter_le ..
                rw [List.length_range] at q
                rw [List.length_map]
                omega
              · rw [upd_ne (fun z => by rw [← z] at nD2; rw [nD2] at hD4; cases hD4)]
                exact xl.lst hD5
              · have ef : [i].filter (fun j => decide (((cellsB rows cc b e).getD j nilS).length = longB (cellsB rows cc b e))) = [i] := by
                  simp only [List.filter_cons, List.filter_nil, ez, decide_eq_true hzl, if_true]
                rw [upd_same, List.range_succ, List.filter_append, List.map_append, ef, List.map_cons, List.map_nil, Int.natCast_add]
            · rw [decide_eq_false (show ¬ V.int ((z.length : Nat) : Int) = V.int ((longB (cellsB rows cc b e) : Nat) : Int) from fun q => hzl (by injection q with q; exact Int.ofNat.inj q))]
              refine iteF ⟨x5.trans xl, xl.lst hD5, ?_⟩
              rw [List.range_succ, List.filter_append, List.map_append]
              simp only [List.filter_cons, List.filter_nil, ez, decide_eq_false hzl]
              simpa using xl.lst hh
          · rintro H5 ⟨x5, hD5, hh⟩
            have h5 : H5 D2 = some (.lst ((holdB (cellsB rows cc b e) b gap least).map V.int)) := by
              rw [hh]
              unfold holdB
              rw [if_pos hg, List.map_map, lsV, lc]
              rfl
            have nHH := x4.old _ nD2
            refine ⟨_, rfl, _, rfl, _, rfl, _, rfl, _, rfl, _, _, rfl, rfl, _, rfl, _, _, rfl, _, rfl, D, cellsB rows cc b e, rfl, x5.tab, SqL.of hD5, by omega, fun z hz => cells_mem hO hcl hen hz, fun H6 x6 => ⟨_, rfl, (by show 6 ≤ sizeLine; decide), fun t nt => ?_⟩⟩
            have x7 := Ex.laid (o := .tup [.int (cc : Nat), .int (b : Nat), .int (e : Nat), .int (widthB (cellsB rows cc b e) gap least), .bl (rightB (cellsB rows cc b e)), .ref D2]) x6.tab nt
            exact k t D2 _ ((x5.trans x6).trans x7) ((x5.trans x6).old _ nt) nHH ⟨upd_same, (x6.trans x7).lst h5⟩
        · rw [decide_eq_false hg]
          have x5 := x4
          have hD5 := hD4
          have h5 : (upd H3 h0 (.lst [])) h0 = some (.lst ((holdB (cellsB rows cc b e) b gap least).map V.int)) := by
            rw [upd_same]
            unfold holdB
            rw [if_neg hg]
            rfl
          have nHH := x3.old _ nh0
          refine iteF ?_
          refine ⟨_, rfl, _, rfl, _, rfl, _, rfl, _, rfl, _, _, rfl, rfl, _, rfl, _, _, rfl, _, rfl, D, cellsB rows cc b e, rfl, x5.tab, SqL.of hD5, by omega, fun z hz => cells_mem hO hcl hen hz, fun H6 x6 => ⟨_, rfl, (by show 6 ≤ sizeLine; decide), fun t nt => ?_⟩⟩
          have x7 := Ex.laid (o := .tup [.int (cc : Nat), .int (b : Nat), .int (e : Nat), .int (widthB (cellsB rows cc b e) gap least), .bl (rightB (cellsB rows cc b e)), .ref h0]) x6.tab nt
          exact k t h0 _ ((x5.trans x6).trans x7) ((x5.trans x6).old _ nt) nHH ⟨upd_same, (x6.trans x7).lst h5⟩
end
end TG
namespace TG
open PySem L2 Gx
def ofCol (rows : List (List Str)) (c : Nat) : List (Nat × Nat × Nat) := (runsB rows c).map fun p => (c, p.1, p.2)
def entB (rows : List (List Str)) : List (Nat × Nat × Nat) := (List.range 5).flatMap (ofCol rows)
theorem flat_short {α : Type} {F : Nat → List α} {k : Nat} (h : ∀ c, k ≤ c → F c = []) : ∀ d, (List.range (k + d)).flatMap F = (List.range k).flatMap F := by
  intro d
  induction d with
  | zero => rfl
  | succ d ih =>
    rw [← Nat.add_assoc, List.range_succ, List.flatMap_append, ih, List.flatMap_cons, h (k + d) (by omega)]
    simp
theorem col_nil {rows : List (List Str)} {c m : Nat} (h : ∀ r ∈ rows, r.length ≤ m) (hc : m ≤ c + 1) : ofCol rows c = [] := by
  have e : ∀ i, stB rows c i = false := fun i => by
    unfold stB
    have : clB rows c i = false := by
      unfold clB
      cases q : rows[i]? with
      | none => rfl
      | some r => exact decide_eq_false (by have := h r (List.mem_of_getElem? q); omega)
    rw [this]
    rfl
  unfold ofCol runsB
  have : (List.range rows.length).filter (stB rows c) = [] := List.filter_eq_nil_iff.mpr fun i _ => by rw [e i]; exact Bool.false_ne_true
  rw [this]
  rfl
theorem cols_eq {rows : List (List Str)} {m : Nat} (h : ∀ r ∈ rows, r.length ≤ m) (h6 : m ≤ 6) : (List.range m).flatMap (ofCol rows) = entB rows := by
  have e := flat_short (F := ofCol rows) (k := m - 1) fun c hc => col_nil h (by omega)
  have e1 := e (m - (m - 1))
  have e2 := e (5 - (m - 1))
  rw [show m - 1 + (m - (m - 1)) = m by omega] at e1
  rw [show m - 1 + (5 - (m - 1)) = 5 by omega] at e2
  unfold entB
  rw [e1, e2]
theorem run_facts {rows : List (List Str)} {c i : Nat} {p : Nat × Nat} (h : (runsB rows c)[i]? = some p) : p.1 < p.2 ∧ p.2 ≤ rows.length ∧ ∀ j, p.1 ≤ j → j < p.2 → clB rows c j = true := by
  obtain ⟨x, hx, rfl⟩ := get_map h
  have hm := List.mem_filter.mp (List.mem_of_getElem? hx)
  have hst := hm.2
  have hc : clB rows c x = true := by
    unfold stB at hst
    exact (Bool.and_eq_true_iff.mp hst).1
  refine ⟨?_, hi_le (Nat.le_of_lt (cl_lt hc)), fun j h1 h2 => hi_in (j - x) x j (by omega) h2⟩
  show x < hiB rows c x
  rw [hi_yes hc]
  exact hi_ge rows c (x + 1)
/-- the told tuples at ts, their holders at hs -/
structure DescsAt (H : Hp) (ts hs : List Addr) (es : List (Nat × Nat × Nat)) (rows : List (List Str)) (gap least : Int) : Prop where
  len : ts.length = es.length
  len2 : hs.length = es.length
  at_ : ∀ (i : Nat) (t h : Addr) (q : Nat × Nat × Nat), ts[i]? = some t → hs[i]? = some h → es[i]? = some q → DescAt H t h q.1 q.2.1 q.2.2 (cellsB rows q.1 q.2.1 q.2.2) gap least
theorem DescsAt.snoc {H : Hp} {ts hs : List Addr} {es : List (Nat × Nat × Nat)} {rows : List (List Str)} {gap least : Int} {t h : Addr} {q : Nat × Nat × Nat} (x : DescsAt H ts hs es rows gap least) (e : DescAt H t h q.1 q.2.1 q.2.2 (cellsB rows q.1 q.2.1 q.2.2) gap least) : DescsAt H (ts ++ [t]) (hs ++ [h]) (es ++ [q]) rows gap least := by
  refine ⟨by rw [List.length_append, List.length_append, x.len]; rfl, by rw [List.length_append, List.length_append, x.len2]; rfl, fun i u v p h1 h2 h3 => ?_⟩
  by_cases hi : i < ts.length
  · rw [List.getElem?_append_left hi] at h1
    rw [List.getElem?_append_left (by rw [x.len2, ← x.len]; exact hi)] at h2
    rw [List.getElem?_append_left (by rw [← x.len]; exact hi)] at h3
    exact x.at_ i u v p h1 h2 h3
  · have hl := (List.getElem?_eq_some_iff.mp h1).1
    rw [List.length_append, List.length_singleton] at hl
    have e1 : i = ts.length := by omega
    subst e1
    rw [List.getElem?_append_right (Nat.le_refl _), Nat.sub_self] at h1
    rw [x.len, ← x.len2, List.getElem?_append_right (Nat.le_refl _), Nat.sub_self] at h2
    rw [x.len, List.getElem?_append_right (Nat.le_refl _), Nat.sub_self] at h3
    cases h1
    cases h2
    cases h3
    exact e
theorem DescsAt.keep {H H' : Hp} {ts hs : List Addr} {es : List (Nat × Nat × Nat)} {rows : List (List Str)} {gap least : Int} (x : DescsAt H ts hs es rows gap least) (k : ∀ b o, H b = some o → (b ∈ ts ∨ b ∈ hs) → (∀ ps, o ≠ .tbl ps) → H' b = some o) : DescsAt H' ts hs es rows gap least :=
  ⟨x.len, x.len2, fun i t h q h1 h2 h3 => ⟨k _ _ (x.at_ i t h q h1 h2 h3).1 (.inl (List.mem_of_getElem? h1)) (fun ps z => by cases z), k _ _ (x.at_ i t h q h1 h2 h3).2 (.inr (List.mem_of_getElem? h2)) (fun ps z => by cases z)⟩⟩
theorem StyleAt.ex {K : PySem.W.Frag} {cs : List (Addr × Addr)} {H H' : Hp} {a : Addr} {gap least : Int} (p : StyleAt K H a gap least) (e : Ex cs H H') : StyleAt K H' a gap least := ⟨e.sqT p.tup, p.g0, p.g1, p.l0, p.l1⟩
theorem flat_len {α : Type} {F : Nat → List α} {b : Nat} (h : ∀ c, (F c).length ≤ b) : ∀ n, ((List.range n).flatMap F).length ≤ n * b := by
  intro n
  induction n with
  | zero => simp
  | succ n ih =>
    rw [List.range_succ, List.flatMap_append, List.length_append, List.flatMap_cons, List.flatMap_nil, List.append_nil, Nat.succ_mul]
    have := h n
    omega
theorem col_len (rows : List (List Str)) (c : Nat) : (ofCol rows c).length ≤ rows.length := by
  unfold ofCol runsB
  rw [List.length_map, List.length_map]
  have : ((List.range rows.length).filter (stB rows c)).length ≤ (List.range rows.length).length := List.length_filter_le ..
  rw [List.length_range] at this
  exact this
def rLenSeq (K : PySem.W.Frag) : List V → Hp → VK → Prop := fun xs H Q => ∃ p ys, xs = [V.ref p] ∧ (SqL K H p ys ∨ SqT K H p ys) ∧ Q (.int (ys.length : Nat)) H
section
variable {P : Program} {w : World} {K : PySem.W.Frag} {mg : Str → Option Value} {base : Heap} {cs : List (Addr × Addr)}
def spStr (K : PySem.W.Frag) (cs : List (Addr × Addr)) : Sp := fun vs H Q _ => ∃ (a st : Addr) (as : List Addr) (rows : List (List Str)) (gap least : Int), vs = [.ref a, .ref st] ∧ Tabs cs H ∧ PageAt K H a as rows ∧ PgOk rows ∧ StyleAt K H st gap least ∧
  ∀ (r : Addr) (ts hs : List Addr) (H' : Hp), Ex cs H H' → H r = none → (∀ t ∈ ts, H t = none) → (∀ h ∈ hs, H h = none) → H' r = some (.lst (ts.map V.ref)) → DescsAt H' ts hs (entB rows) rows gap least → Q (.ref r) H'
theorem sc_str : FnScope ["page", "style", "told", "column", "begin", "end"] ["page", "style"] (defScope s_stretches) := ⟨rfl, rfl, rfl, by decide +kernel, rfl, by decide +kernel, by decide +kernel⟩
theorem ok_str {f c Pt g1 g2 g3 g4 : Addr} {fd fd1 fd2 fd3 fd4 : FuncData} (T : Txt mg) (F : Fun K "stretches" "stretches" s_stretches f fd) (hc : fd.code = .ref c) (TB : GxR.TabB base mg c Pt) (hm : (c, Pt) ∈ cs)
    (G1 : FnOk P w K mg base CX0 11 g1 fd1 ["page"] (spCheck K cs)) (k1 : PySem.W.keepIn K (.ref g1) = true) (b1 : Binds K fd1 ["page"] []) (m1 : mg "check_page" = some (.ref g1))
    (G2 : FnOk P w K mg base CX0 2 g2 fd2 ["style"] (spStyle K)) (k2 : PySem.W.keepIn K (.ref g2) = true) (b2 : Binds K fd2 ["style"] []) (m2 : mg "check_style" = some (.ref g2))
    (G3 : FnOk P w K mg base CX0 2 g3 fd3 ["page", "column"] (spRuns K cs)) (k3 : PySem.W.keepIn K (.ref g3) = true) (b3 : Binds K fd3 ["page", "column"] []) (m3 : mg "closed_runs" = some (.ref g3))
    (G4 : FnOk P w K mg base CX0 6 g4 fd4 ["page", "style", "column", "begin", "end"] (spDesc K cs)) (k4 : PySem.W.keepIn K (.ref g4) = true) (b4 : Binds K fd4 ["page", "style", "column", "begin", "end"] []) (m4 : mg "described" = some (.ref g4)) :
    FnOk P w K mg base CX0 12 f fd ["page", "style"] (spStr K cs) := by
  refine fun_okT F hc sc_str (fun vs H Q E h => ?_) (fun A outer s H vs Q E hr h => ?_)
  · obtain ⟨a, st, as, rows, gap, least, rfl, _⟩ := h
    rfl
  · obtain ⟨a, st, as, rows, gap, least, rfl, hT, hP, hO, hS, k⟩ := h
    have nd := sc_str.nd
    refine ⟨_, pss_cons (ps_expr (pe_call G1 hr (by rfl) m1 k1 b1 .nil pass0 (pa_cons (pv 0) pa_nil))) (pss_cons (ps_expr (pe_call G2 (hr.mono (by decide)) (by rfl) m2 k2 b2 .nil pass0 (pa_cons (pv 1) pa_nil)))
      (pss_cons (ps_set (i := 2) nd rfl (.inl rfl) (pe_lst pa_nil))
      (pss_cons (ps_for PassesOwn.never rfl (pi_range1 (by rfl) T.range (pa_cons (pe_maxG (k := 0) (P := Pt) (hr.mono (by decide)) (by rfl) T.max TB rfl ⟨rfl, rfl, by decide +kernel, by decide +kernel, rfl, rfl⟩ (pi_list (pv 0)) (fun A' code s4 H4 fp hr' => pe_callB (r := rLenSeq K) call_len_seq (by rfl) T.len PySem.boot_len (pa_cons (pv 0) pa_nil)) (fun _ => rfl)) pa_nil)) (pg_name (i := 3) nd rfl (.inl rfl))
        (pss_one (ps_for PassesOwn.never rfl (pi_list (pe_call G3 (hr.mono (by decide)) (by rfl) m3 k3 b3 .nil pass0 (pa_cons (pv 0) (pa_cons (pv 3) pa_nil)))) (pg_tup rfl (pgs_cons (pg_name (i := 4) nd rfl (.inl rfl)) (pgs_cons (pg_name (i := 5) nd rfl (.inl rfl)) pgs_nil)))
          (pss_one (ps_expr (pe_bm PySem.F.plainAttrs_list PySem.F.slot_list_append PySem.F.type_list_append mt_append (pv 2) (pa_cons (pe_call G4 (hr.mono (by decide)) (by rfl) m4 k4 b4 .nil pass0 (pa_cons (pv 0) (pa_cons (pv 1) (pa_cons (pv 3) (pa_cons (pv 4) (pa_cons (pv 5) pa_nil)))))) pa_nil)))))))
      (pss_one (ps_ret (pv 2)))))), ?_⟩
    have ll := hO.len
    have lp := hO.pos
    have lsz : (1000 : Nat) < sizeLine := by decide
    have las : (as.map V.ref).length = rows.length := by rw [List.length_map, hP.len]
    refine ⟨_, rfl, a, as, rows, rfl, hT, hP, hO, fun H1 x1 => ⟨_, rfl, st, gap, least, rfl, hS.ex x1, small0, fun p np => ?_⟩⟩
    have x2 := x1.trans (Ex.laid (o := .lst []) x1.tab np)
    have np0 := x1.old _ np
    refine ⟨_, rfl, a, rfl, ⟨_, x2.sqL hP.lst⟩, x2.tab _ hm, fun H2 hH2 => ?_⟩
    have xt := Ex.tabbed x2.tab hm hH2
    have x3 := x2.trans xt
    have hp3 : H2 p = some (.lst []) := xt.lst upd_same
    refine max_by (w := walk_list (a := a) (xs := as.map V.ref)) (fun i => (((rows.getD i []).length : Nat) : Int)) (by omega) (fun _ H' => Ex cs H H' ∧ H' p = some (.lst [])) ⟨x3, hp3⟩ (fun i H' _ x => x.1.sqL hP.lst) (fun i v H3 H4 hi x y Z hZ => ?_) (fun m H3 x4 hex hall => ?_)
    · obtain ⟨rfl, hv⟩ := y
      obtain ⟨q, hq, rfl⟩ := get_map hv
      obtain ⟨r, hr2⟩ := getP (xs := rows) (i := i) (by omega)
      refine ⟨_, rfl, q, _, rfl, .inr (x.1.sqT (hP.row i q r hq hr2)), ?_⟩
      have z := hZ _ x
      have er : rows.getD i [] = r := by rw [List.getD_eq_getElem?_getD, hr2]; rfl
      rw [er] at z
      rw [List.length_map]
      exact z
    · obtain ⟨x4, hp4⟩ := x4
      have hmax : ∀ r ∈ rows, r.length ≤ m.toNat := fun r hr2 => by
        obtain ⟨j, hj, e⟩ := List.getElem_of_mem hr2
        have h1 := hall j (by omega)
        rw [List.getD_eq_getElem?_getD, List.getElem?_eq_getElem hj, e] at h1
        have h1' : ((r.length : Nat) : Int) ≤ m := h1
        omega
      have hm6 : m.toNat ≤ 6 := by
        obtain ⟨i, hi, e1⟩ := hex
        rw [List.getD_eq_getElem?_getD, List.getElem?_eq_getElem (by omega)] at e1
        have h2 := (hO.rows _ (List.getElem_mem (l := rows) (show i < _ by omega))).len
        have e1' : ((rows[i]'(by omega)).length : Int) = m := e1
        omega
      have hm0 : 0 ≤ m := by
        obtain ⟨i, hi, e1⟩ := hex
        rw [← e1]
        exact Int.natCast_nonneg _
      refine ⟨m, rfl, by omega, by omega, for_range (n := m.toNat) (fun i σ H' => ∃ (ts hs : List Addr) (c3 c4 c5 : Option V), σ = [some (.ref a), some (.ref st), some (.ref p), c3, c4, c5] ∧ Ex cs H H' ∧ H' p = some (.lst (ts.map V.ref)) ∧ (∀ t ∈ ts, H t = none ∧ t ≠ p) ∧ (∀ h ∈ hs, H h = none ∧ h ≠ p) ∧ DescsAt H' ts hs ((List.range i).flatMap (ofCol rows)) rows gap least)
        ⟨[], [], none, none, none, rfl, x4, hp4, fun t h => by simp at h, fun t h => by simp at h, rfl, rfl, fun i t h q h1 => by simp at h1⟩ ?_ ?_⟩
      · rintro i σ H5 hi ⟨ts, hs, c3, c4, c5, rfl, x5, hp5, ft, fh, ds⟩
        refine ⟨_, rfl, _, rfl, a, as, rows, i, by rw [Int.zero_add]; rfl, x5.tab, hP.ex x5, ll, fun r1 ts1 H6 x6 nr1 hr1 pr1 => ⟨r1, rfl, ⟨_, SqL.of hr1⟩, ?_⟩⟩
        have r1p : r1 ≠ p := fun z => by rw [z, hp5] at nr1; cases nr1
        have hl1 : (ts1.map V.ref).length = (ofCol rows i).length := by unfold ofCol; rw [List.length_map, List.length_map, pr1.len]
        refine for_list (xs := ts1.map V.ref) (fun j σ H' => ∃ (ts hs : List Addr) (c4 c5 : Option V), σ = [some (.ref a), some (.ref st), some (.ref p), some (.int (0 + (i : Nat))), c4, c5] ∧ Ex cs H H' ∧ H' r1 = some (.lst (ts1.map V.ref)) ∧ PairsAt H' ts1 (runsB rows i) ∧ H' p = some (.lst (ts.map V.ref)) ∧ (∀ t ∈ ts, H t = none ∧ t ≠ p) ∧ (∀ h ∈ hs, H h = none ∧ h ≠ p) ∧ DescsAt H' ts hs ((List.range i).flatMap (ofCol rows) ++ (ofCol rows i).take j) rows gap least)
          ⟨ts, hs, c4, c5, rfl, x5.trans x6, hr1, pr1, x6.lst hp5, ft, fh, by rw [List.take_zero, List.append_nil]; exact ds.keep fun b o e _ n => x6.ext b o e n⟩ (fun j σ H' _ ⟨_, _, _, _, _, _, q, _⟩ => SqL.of q) ?_ ?_
        · rintro j v σ H7 hv ⟨ts, hs, c4, c5, rfl, x7, hr7, pr7, hp7, ft, fh, ds⟩
          obtain ⟨t1, ht1, rfl⟩ := get_map hv
          obtain ⟨q, hq⟩ := getP (xs := runsB rows i) (i := j) (by rw [← pr7.len]; exact (List.getElem?_eq_some_iff.mp ht1).1)
          obtain ⟨f1, f2, f3⟩ := run_facts hq
          have hsz : (ts.map V.ref).length < sizeLine := by
            rw [List.length_map, ds.len, List.length_append, List.length_take]
            have q1 := flat_len (F := ofCol rows) (b := 30) (fun c => Nat.le_trans (col_len rows c) ll) i
            have q2 := col_len rows i
            have q3 : min j (ofCol rows i).length ≤ (ofCol rows i).length := Nat.min_le_right _ _
            omega
          refine ⟨t1, _, rfl, .inl (.inl (pr7.at_ j t1 q ht1 hq)), rfl, _, _, rfl, _, _, rfl, rfl, ?_⟩
          refine ⟨_, rfl, .inl ⟨rfl, _, SqL.of hp7⟩, _, rfl, _, rfl, _, rfl, _, rfl, _, rfl, a, st, as, rows, gap, least, i, q.1, q.2, by rw [Int.zero_add]; rfl, x7.tab, hP.ex x7, hO, hS.ex x7, f1, f2, f3, fun t h H8 x8 nt nh hd => ⟨p, _, .ref t, rfl, rfl, x8.lst hp7, hsz, ?_⟩⟩
          have tp : t ≠ p := fun z => by rw [z, hp7] at nt; cases nt
          have hp' : h ≠ p := fun z => by rw [z, hp7] at nh; cases nh
          have x9 := ex_new (o := .lst (ts.map V.ref ++ [.ref t])) hT (x7.trans x8) np0
          refine ⟨ts ++ [t], hs ++ [h], _, _, rfl, x9, by rw [upd_ne r1p]; exact x8.lst hr7, pr7.keep fun b xs e => ?_, by rw [upd_same, List.map_append]; rfl, fun u hu => ?_, fun u hu => ?_, ?_⟩
          · rw [upd_ne (fun z => by rw [z, hp7] at e; cases e)]; exact x8.tup e
          · rcases List.mem_append.mp hu with z | z
            · exact ft u z
            · rw [List.mem_singleton.mp z]; exact ⟨x7.old _ nt, tp⟩
          · rcases List.mem_append.mp hu with z | z
            · exact fh u z
            · rw [List.mem_singleton.mp z]; exact ⟨x7.old _ nh, hp'⟩
          · have ej : (ofCol rows i)[j]? = some (i, q.1, q.2) := by unfold ofCol; rw [List.getElem?_map, hq]; rfl
            rw [List.take_add_one, ej, ← List.append_assoc]
            refine (ds.keep fun b o e m n => ?_).snoc (q := (i, q.1, q.2)) ⟨by rw [upd_ne tp]; exact hd.1, by rw [upd_ne hp']; exact hd.2⟩
            have nb : b ≠ p := by
              rcases m with m | m
              · exact (ft b m).2
              · exact (fh b m).2
            rw [upd_ne nb]; exact x8.ext b o e n
        · rintro σ H7 ⟨ts, hs, c4, c5, rfl, x7, hr7, pr7, hp7, ft, fh, ds⟩
          refine ⟨ts, hs, _, _, _, rfl, x7, hp7, ft, fh, ?_⟩
          rw [hl1, List.take_of_length_le (Nat.le_refl _)] at ds
          rw [List.range_succ, List.flatMap_append, List.flatMap_cons, List.flatMap_nil, List.append_nil]
          exact ds
      · rintro σ H5 ⟨ts, hs, c3, c4, c5, rfl, x5, hp5, ft, fh, ds⟩
        refine ⟨_, rfl, k p ts hs H5 x5 np0 (fun t h => (ft t h).1) (fun t h => (fh t h).1) hp5 ?_⟩
        rw [cols_eq hmax hm6] at ds
        exact ds
end
end TG
namespace TG
open PySem L2 Gx
theorem cl_app (x y : Str) : cl (x ++ y) = cl x ++ cl y := TL.tl_append x y
theorem joinL_nil : ∀ l : List (List Nat), TL.joinL [] l = l.flatten
  | [] => rfl
  | [p] => by simp [TL.joinL]
  | p :: q :: r => by
    show p ++ ([] ++ TL.joinL [] (q :: r)) = _
    rw [joinL_nil (q :: r)]
    rfl
theorem cl_join (ys : List Str) : cl (Txt.join "" ys) = (ys.map cl).flatten := by
  have e : ("" : Str) = SX.S [] := by decide +kernel
  have e2 : ys = (ys.map cl).map SX.S := by
    rw [List.map_map]
    conv => lhs; rw [← List.map_id ys]
    exact List.map_congr_left fun y _ => (SX.S_tl y).symm
  rw [e]
  conv => lhs; rw [e2]
  rw [SX.join_S, joinL_nil]
theorem num_ok {n : Int} (h0 : 0 ≤ n) (h1 : n < 10 ^ 9) : (Str.ofString (toString n)).length ≤ 9 ∧ ∀ c ∈ cl (Str.ofString (toString n)), 48 ≤ c ∧ c ≤ 57 := by
  refine ⟨PyProof.Rows.toString_length_le h0 (by decide) h1, fun c hc => ?_⟩
  obtain ⟨m, rfl⟩ := Int.eq_ofNat_of_zero_le h0
  have hc' : c ∈ (Str.ofString (toString ((m : Nat) : Int))).cps.toList := hc
  rw [PySem.W.KIN.signs_num] at hc'
  obtain ⟨ch, hch, e⟩ := List.mem_map.mp hc'
  have r := PyProof.Rows.digit_range (Nat.isDigit_of_mem_toDigits (by decide) (by decide) hch)
  rw [← e]
  exact r
instance (c : Nat) : Decidable (SgOk c) := inferInstanceAs (Decidable (32 ≤ c ∧ c ≤ 126 ∧ c ≠ 37))
theorem sg_of {z : Str} (h : (z.cps.toList.all fun c => decide (SgOk c)) = true) : ∀ c ∈ cl z, SgOk c := fun c hc => of_decide_eq_true (List.all_eq_true.mp h c hc)
end TG
namespace TG
open PySem L2 Gx
abbrev everyS : Str := " !\"#$&'()*+,-./0123456789:;<=>?@ABCDEFGHIJKLMNOPQRSTUVWXYZ[\\]^_`abcdefghijklmnopqrstuvwxyz{|}~"
theorem every_ok : ∀ c ∈ cl everyS, SgOk c := sg_of (by decide +kernel)
theorem abc_len : (cl "abcdefghij").length = 10 := by decide +kernel
theorem emp_len : (Str.ofString "").length = 0 := by decide +kernel
theorem every_len : (cl everyS).length = 94 := by decide +kernel
theorem cells_ok {l : List Str} (h : (l.all fun z => decide (z.length ≤ 10) && z.cps.toList.all fun c => decide (SgOk c)) = true) : ∀ z ∈ l, CellOk z := fun z hz => by
  have q := Bool.and_eq_true_iff.mp (List.all_eq_true.mp h z hz)
  exact ⟨of_decide_eq_true q.1, sg_of q.2⟩
/-- one of a written list -/
theorem pick {α : Type} {xs : List α} {i : Int} (h0 : 0 ≤ i) (h1 : i < xs.length) : ∃ x, x ∈ xs ∧ atI xs i = some x := by
  obtain ⟨n, rfl⟩ := Int.eq_ofNat_of_zero_le h0
  have hn : n < xs.length := by have : ((n : Nat) : Int) < xs.length := h1; omega
  exact ⟨xs[n], List.getElem_mem hn, atI_nat (List.getElem?_eq_getElem hn)⟩
theorem iteB {c A B : Prop} [Decidable c] (h1 : A) (h2 : B) : if c then A else B := ite2 (fun _ => h1) fun _ => h2
theorem len_cl (z : Str) : z.length = (cl z).length := by simp [Str.length, cl]
theorem box_new {H : Hp} {b l p : Addr} {o : HO} (x : BoxAt H b l) (n : H p = none) : BoxAt (upd H p o) b l := by
  obtain ⟨ns, st, h1, h2, h3⟩ := x
  exact ⟨ns, st, by rw [upd_ne (ne_of_none h1 n)]; exact h1, by rw [upd_ne (ne_of_none h2 n)]; exact h2, h3⟩
theorem new_ne {H : Hp} {b l p : Addr} (x : BoxAt H b l) (n : H p = none) : p ≠ b ∧ p ≠ l := by
  obtain ⟨ns, st, h1, h2, h3⟩ := x
  exact ⟨(ne_of_none h1 n).symm, (ne_of_none h2 n).symm⟩
theorem box_upd {H : Hp} {b l p : Addr} {o : HO} (x : BoxAt H b l) (h1 : p ≠ b) (h2 : p ≠ l) : BoxAt (upd H p o) b l := by
  obtain ⟨ns, st, g1, g2, g3⟩ := x
  exact ⟨ns, st, by rw [upd_ne h1.symm]; exact g1, by rw [upd_ne h2.symm]; exact g2, g3⟩
theorem kb_new {H : Hp} {b l p : Addr} {o : HO} (n : H p = none) : KB b l H (upd H p o) := fun c u e _ _ => by rw [upd_ne (ne_of_none e n)]; exact e
theorem kb_upd {H H' : Hp} {b l p : Addr} {o : HO} (x : KB b l H H') (n : H p = none) : KB b l H (upd H' p o) := fun c u e h1 h2 => by rw [upd_ne (ne_of_none e n)]; exact x c u e h1 h2
theorem atI_map {α β : Type} {f : α → β} {xs : List α} {i : Int} {x : α} (h : atI xs i = some x) : atI (xs.map f) i = some (f x) := by
  unfold atI at h ⊢
  rw [List.length_map]
  cases e : ixN xs.length i with
  | none => rw [e] at h; cases h
  | some j =>
    rw [e] at h
    have h' : xs[j]? = some x := h
    show (xs.map f)[j]? = some (f x)
    rw [List.getElem?_map, h']
    rfl
/-- a list of single signs at D -/
structure OnesAt (b l : Addr) (H : Hp) (D : Addr) (i : Nat) (H' : Hp) : Prop where
  box : BoxAt H' b l
  keep : KB b l H H'
  nD : H D = none
  db : D ≠ b
  dl : D ≠ l
  ones : ∃ cs : List Nat, cs.length = i ∧ (∀ c ∈ cs, SgOk c) ∧ H' D = some (.lst (sV (cs.map fun c => ⟨#[c]⟩)))
theorem OnesAt.start {b l : Addr} {H H1 : Hp} {D : Addr} (hB : BoxAt H1 b l) (x : KB b l H H1) (n : H1 D = none) (nb : BoxAt H b l) : OnesAt b l H D 0 (upd H1 D (.lst [])) := by
  obtain ⟨d1, d2⟩ := new_ne hB n
  have nD : H D = none := by
    cases e : H D with
    | none => rfl
    | some o => rw [x D o e d1 d2] at n; cases n
  exact ⟨box_new hB n, kb_upd x nD, nD, d1, d2, [], rfl, fun c h => by simp at h, upd_same⟩
theorem OnesAt.more {b l : Addr} {H H1 H2 : Hp} {D : Addr} {i c : Nat} (o : OnesAt b l H D i H1) (hc : SgOk c) (hB : BoxAt H2 b l) (x : KB b l H1 H2) :
    ∃ acc, H2 D = some (.lst acc) ∧ acc.length = i ∧ OnesAt b l H D (i + 1) (upd H2 D (.lst (acc ++ [.str ⟨#[c]⟩]))) := by
  obtain ⟨cs, h1, h2, h3⟩ := o.ones
  refine ⟨_, x D _ h3 o.db o.dl, by rw [List.length_map, List.length_map, h1], box_upd hB o.db o.dl, kb_upd (o.keep.trans x) o.nD, o.nD, o.db, o.dl, cs ++ [c], by rw [List.length_append, h1]; rfl, fun d hd => ?_, ?_⟩
  · rcases List.mem_append.mp hd with h | h
    · exact h2 d h
    · rw [List.mem_singleton.mp h]; exact hc
  · rw [upd_same]
    simp [sV]
theorem OnesAt.done {b l : Addr} {H H1 : Hp} {D : Addr} {i : Nat} (o : OnesAt b l H D i H1) : ∃ ys : List Str, H1 D = some (.lst (ys.map V.str)) ∧ ys.length = i ∧ (ys.map fun y => y.length).sum = i ∧ (i ≤ 10 → CellOk (Txt.join "" ys)) := by
  obtain ⟨cs, h1, h2, h3⟩ := o.ones
  refine ⟨_, h3, by rw [List.length_map, h1], ?_, fun hi => ?_⟩
  · rw [← h1]
    clear h1 h2 h3
    induction cs with
    | nil => rfl
    | cons c cs ih =>
      rw [List.map_cons, List.map_cons, List.sum_cons, ih, List.length_cons]
      show 1 + cs.length = cs.length + 1
      omega
  · have e : cl (Txt.join "" (cs.map fun c => (⟨#[c]⟩ : Str))) = cs := by
      rw [cl_join, List.map_map]
      clear h1 h2 h3
      induction cs with
      | nil => rfl
      | cons c cs ih =>
        rw [List.map_cons, List.flatten_cons, ih]
        rfl
    exact ⟨by rw [len_cl, e, h1]; exact hi, fun c hc => h2 c (by have hc : c ∈ cl _ := hc; rw [e] at hc; exact hc)⟩
abbrev oddL : List Str := ["-", "--1", "1-", "0x", " 1", "1 ", "-0", "007", " ", "   ", "1234567x", "12345678-", "-0000000 1"]
theorem odd_ok : ∀ z ∈ oddL, CellOk z := cells_ok (by decide +kernel)
section
variable {P : Program} {w : World} {K : PySem.W.Frag} {mg : Str → Option Value} {base : Heap} {cs : List (Addr × Addr)}
def spSign : Sp := fun vs H Q _ => ∃ (b l : Addr), vs = [.ref b] ∧ BoxAt H b l ∧ ∀ (c : Nat) (H' : Hp), SgOk c → BoxAt H' b l → KB b l H H' → Q (.str ⟨#[c]⟩) H'
theorem sc_sign : FnScope ["_law_box", "_law_every"] ["_law_box"] (defScope s_sign) := ⟨rfl, rfl, rfl, by decide +kernel, rfl, by decide +kernel, by decide +kernel⟩
theorem ok_sign {f g : Addr} {fd fdg : FuncData} (F : Fun K "_law_sign" "_law_sign" s_sign f fd)
    (G : FnOk P w K mg base CX0 1 g fdg ["_law_box", "_law_many"] spTake) (kp : PySem.W.keepIn K (.ref g) = true) (bd : Binds K fdg ["_law_box", "_law_many"] []) (mgg : mg "_law_take" = some (.ref g)) : FnOk P w K mg base CX0 2 f fd ["_law_box"] spSign := by
  refine F.ok sc_sign (fun vs H Q E h => ?_) (fun cdv A outer s H vs Q E hr h => ?_)
  · obtain ⟨b, l, rfl, _⟩ := h
    rfl
  · obtain ⟨b, l, rfl, hB, k⟩ := h
    have nd := sc_sign.nd
    refine ⟨_, pss_cons (ps_set (i := 1) nd rfl (.inl rfl) pe_str) (pss_one (ps_ret (pe_ix ix_str (pv 1) (pe_call G hr (by rfl) mgg kp bd .nil pass0 (pa_cons (pv 0) (pa_cons pe_int pa_nil))) (fun _ _ => rfl)))), ?_⟩
    refine ⟨_, rfl, _, rfl, b, l, 94, rfl, hB, by decide, by decide, fun r H1 r0 r1 hB1 x1 => ?_⟩
    obtain ⟨c, hc, e⟩ := pick (xs := cl everyS) r0 (by rw [every_len]; exact r1)
    exact ⟨everyS, r, c, rfl, rfl, line10 (by decide +kernel), e, k c H1 (every_ok c hc) hB1 x1⟩
def spCell : Sp := fun vs H Q _ => ∃ (b l : Addr) (sort : Int), vs = [.ref b, .int sort] ∧ BoxAt H b l ∧ ∀ (z : Str) (H' : Hp), CellOk z → BoxAt H' b l → KB b l H H' → Q (.str z) H'
theorem sc_cell : FnScope ["_law_box", "_law_sort", "_law_way", "_law_odd", "_law_many", "_law_k"] ["_law_box", "_law_sort"] (defScope s_cell) := ⟨rfl, rfl, rfl, by decide +kernel, rfl, by decide +kernel, by decide +kernel⟩
abbrev nmCell : List Str := ["_law_box", "_law_sort", "_law_way", "_law_odd", "_law_many", "_law_k"]
theorem ok_cell {f g g2 : Addr} {fd fdg fd2 : FuncData} (T : Txt mg) (F : Fun K "_law_cell" "_law_cell" s_cell f fd)
    (G : FnOk P w K mg base CX0 1 g fdg ["_law_box", "_law_many"] spTake) (kp : PySem.W.keepIn K (.ref g) = true) (bd : Binds K fdg ["_law_box", "_law_many"] []) (mgg : mg "_law_take" = some (.ref g))
    (G2 : FnOk P w K mg base CX0 2 g2 fd2 ["_law_box"] spSign) (kp2 : PySem.W.keepIn K (.ref g2) = true) (bd2 : Binds K fd2 ["_law_box"] []) (mg2 : mg "_law_sign" = some (.ref g2)) : FnOk P w K mg base CX0 3 f fd ["_law_box", "_law_sort"] spCell := by
  refine F.ok sc_cell (fun vs H Q E h => ?_) (fun cdv A outer s H vs Q E hr h => ?_)
  · obtain ⟨b, l, sort, rfl, _⟩ := h
    rfl
  · obtain ⟨b, l, sort, rfl, hB, k⟩ := h
    have nd := sc_cell.nd
    have hr1 : Room 1 _ := hr.mono (by decide)
    refine ⟨_, pss_cons (ps_set (i := 2) nd rfl (.inl rfl) (pe_call G hr1 (by rfl) mgg kp bd .nil pass0 (pa_cons (pv 0) (pa_cons pe_int pa_nil))))
      (pss_cons (ps_if (pt_cmpR op_eq (pv 2) pe_int (nomark _)) (pss_one (ps_ret pe_str)) pss_nil)
      (pss_cons (ps_if (PW.pt (pw_or (pt_cmpR op_eq (pv 2) pe_int (nomark _)) (pw_or1 (PW.pt (pw_and (pt_cmpR op_eq (pv 1) pe_int (nomark _)) (pw_and1 (pt_cmpR op_lt (pv 2) pe_int (nomark _)))))))) (pss_one (ps_ret (pe_op op_add_str (pe_ix ix_list (pe_lst (pa_cons pe_str (pa_cons pe_str pa_nil))) (pe_op op_fdivN (pe_call G hr1 (by rfl) mgg kp bd .nil pass0 (pa_cons (pv 0) (pa_cons pe_int pa_nil))) pe_int) (fun _ _ => rfl)) (pe_callTy call_str_int (by rfl) T.str (by decide +kernel) (pa_cons (pe_call G hr1 (by rfl) mgg kp bd .nil pass0 (pa_cons (pv 0) (pa_cons (pe_ix ix_list (pe_lst (pa_cons pe_int (pa_cons pe_int (pa_cons (pe_op op_pow pe_int pe_int) pa_nil)))) (pe_call G hr1 (by rfl) mgg kp bd .nil pass0 (pa_cons (pv 0) (pa_cons pe_int pa_nil))) (fun _ _ => rfl)) pa_nil))) pa_nil))))) pss_nil)
      (pss_cons (ps_if (pt_cmpR op_eq (pv 2) pe_int (nomark _)) (pss_cons (ps_set (i := 3) nd rfl (.inl rfl) (pe_lst (pa_cons pe_str (pa_cons pe_str (pa_cons pe_str (pa_cons pe_str (pa_cons pe_str (pa_cons pe_str (pa_cons pe_str (pa_cons pe_str (pa_cons pe_str (pa_cons pe_str (pa_cons pe_str (pa_cons pe_str (pa_cons pe_str pa_nil))))))))))))))) (pss_one (ps_ret (pe_ix ix_list (pv 3) (pe_call G hr1 (by rfl) mgg kp bd .nil pass0 (pa_cons (pv 0) (pa_cons pe_int pa_nil))) (fun _ _ => rfl))))) pss_nil)
      (pss_cons (ps_set (i := 4) nd rfl (.inl rfl) (pe_op op_add pe_int (pe_call G hr1 (by rfl) mgg kp bd .nil pass0 (pa_cons (pv 0) (pa_cons (pe_ix ix_list (pe_lst (pa_cons pe_int (pa_cons pe_int pa_nil))) (pe_call G hr1 (by rfl) mgg kp bd .nil pass0 (pa_cons (pv 0) (pa_cons pe_int pa_nil))) (fun _ _ => rfl)) pa_nil)))))
      (pss_cons (ps_if (pt_cmpR op_lt (pv 2) pe_int (nomark _)) (pss_one (ps_ret (pe_join pe_str (pe_lc (own := [("_law_k", 5)]) (g := gName 5) (tt := tYes) rfl nd (pi_range1 (by rfl) T.range (pa_cons (pv 4) pa_nil)) (blkOk_by (own := [("_law_k", 5)]) (N := nmCell) (sc := defScope s_cell) (by decide +kernel)) (fun _ _ _ _ _ => pg_name (i := 5) nd rfl (Or.inl rfl)) (fun _ _ _ _ _ => pts_nil) (fun s1 H1 C1 cl1 fp1 => pe_ix ix_str pe_str (pe_call G hr1 (by rfl) mgg kp bd .nil pass0 (pa_cons (pv 0) (pa_cons pe_int pa_nil))) (fun _ _ => rfl)))))) pss_nil)
      (pss_one (ps_ret (pe_join pe_str (pe_lc (own := [("_law_k", 5)]) (g := gName 5) (tt := tYes) rfl nd (pi_range1 (by rfl) T.range (pa_cons (pv 4) pa_nil)) (blkOk_by (own := [("_law_k", 5)]) (N := nmCell) (sc := defScope s_cell) (by decide +kernel)) (fun _ _ _ _ _ => pg_name (i := 5) nd rfl (Or.inl rfl)) (fun _ _ _ _ _ => pts_nil) (fun s1 H1 C1 cl1 fp1 => pe_call G2 hr (by rfl) mg2 kp2 bd2 .nil pass0 (pa_cons (pv 0) pa_nil))))))))))), ?_⟩
    have szl : (1000 : Nat) < sizeLine := by decide
    refine ⟨_, rfl, b, l, 9, rfl, hB, by decide, by decide, fun way H1 w0 w1 hB1 x1 => ⟨_, rfl, rfl, _, rfl, iteB ?_ ?_⟩⟩
    · exact k _ H1 ⟨by decide +kernel, sg_of (by decide +kernel)⟩ hB1 x1
    refine ⟨_, rfl, rfl, _, rfl, iteB (iteT ?body) ⟨_, rfl, rfl, _, rfl, iteB ⟨_, rfl, _, _, rfl, rfl, _, rfl, iteB ?body ?rest⟩ (iteF ?rest)⟩⟩
    case body =>
      refine ⟨line10 (by decide), fun p np => ⟨_, rfl, b, l, 3, rfl, box_new hB1 np, by decide, by decide, fun r H2 r0 r1 hB2 x2 => ⟨r, 2, rfl, rfl, ⟨by decide, by decide⟩, ?_⟩⟩⟩
      have y2 := (x1.trans (kb_new np)).trans x2
      have e2 : r.fdiv 2 = r / 2 := Int.fdiv_eq_ediv_of_nonneg r (by decide)
      obtain ⟨v, hv, ev⟩ := pick (xs := [(⟨#[]⟩ : Str), ⟨#[45]⟩]) (i := r.fdiv 2) (by omega) (by show r.fdiv 2 < 2; omega)
      obtain ⟨nb, nl⟩ := new_ne hB1 np
      have l1 : ([("" : Str), "-"] : List Str) = [⟨#[]⟩, ⟨#[45]⟩] := by decide +kernel
      have hp2 : H2 p = some (.lst (sV [("" : Str), "-"])) := x2 p _ upd_same nb nl
      refine ⟨p, _, _, .str v, rfl, rfl, SqL.of hp2, by rw [l1]; exact atI_map ev, ?_⟩
      refine ⟨_, rfl, 10, 9, rfl, rfl, ⟨by decide, by decide, by decide⟩, line10 (by decide), fun p2 np2 => ⟨_, rfl, b, l, 3, rfl, box_new hB2 np2, by decide, by decide, fun r2 H4 s0 s1 hB4 x4 => ?_⟩⟩
      obtain ⟨nb2, nl2⟩ := new_ne hB2 np2
      have y4 := (y2.trans (kb_new np2)).trans x4
      have hp4 := x4 p2 _ upd_same nb2 nl2
      obtain ⟨m, hm, em⟩ := pick (xs := [(10 : Int), 1000, 1000000000]) (i := r2) s0 s1
      have hm2 : 0 < m ∧ m ≤ 1000000000 := by
        simp only [List.mem_cons, List.not_mem_nil, or_false] at hm
        omega
      refine ⟨p2, _, _, .int m, rfl, rfl, SqL.of hp4, atI_map (f := V.int) em, b, l, m, rfl, hB4, hm2.1, by omega, fun n H5 n0 n1 hB5 x5 => ⟨n, rfl, ?_, v, _, rfl, rfl, ?_, ?_⟩⟩
      · by_cases hz : n.natAbs = 0
        · rw [hz]; decide
        · refine Nat.lt_of_lt_of_le ((Nat.log2_lt hz).mpr (show n.natAbs < 2 ^ 30 by omega)) (by decide)
      · have h9 := (num_ok n0 (by omega)).1
        have hv1 : v.length ≤ 1 := by
          simp only [List.mem_cons, List.not_mem_nil, or_false] at hv
          rcases hv with rfl | rfl <;> decide
        omega
      · obtain ⟨h9, hd9⟩ := num_ok n0 (by omega)
        have hv1 : v.length ≤ 1 ∧ ∀ c ∈ cl v, SgOk c := by
          simp only [List.mem_cons, List.not_mem_nil, or_false] at hv
          rcases hv with rfl | rfl <;> exact ⟨by decide, sg_of (by decide)⟩
        refine k _ H5 ⟨?_, fun c hc => ?_⟩ hB5 (y4.trans x5)
        · rw [len_cl, cl_app, List.length_append, ← len_cl, ← len_cl]; omega
        · have hc : c ∈ cl (v ++ _) := hc
          rw [cl_app] at hc
          rcases List.mem_append.mp hc with h | h
          · exact hv1.2 c h
          · have := hd9 c h
            unfold SgOk
            omega
    case rest =>
    refine ⟨_, rfl, rfl, _, rfl, iteB ?_ ?_⟩
    · refine ⟨line10 (by decide), fun p np => ⟨_, rfl, _, rfl, b, l, 13, rfl, box_new hB1 np, by decide, by decide, fun r H2 r0 r1 hB2 x2 => ?_⟩⟩
      obtain ⟨nb, nl⟩ := new_ne hB1 np
      have hp2 : H2 p = some (.lst (sV oddL)) := x2 p _ upd_same nb nl
      obtain ⟨v, hv, ev⟩ := pick (xs := oddL) (i := r) r0 r1
      exact ⟨p, _, _, .str v, rfl, rfl, SqL.of hp2, atI_map ev, k v H2 (odd_ok v hv) hB2 ((x1.trans (kb_new np)).trans x2)⟩
    refine ⟨_, rfl, line10 (by decide), fun p np => ⟨_, rfl, b, l, 2, rfl, box_new hB1 np, by decide, by decide, fun r H2 r0 r1 hB2 x2 => ?_⟩⟩
    obtain ⟨nb, nl⟩ := new_ne hB1 np
    have hp2 := x2 p _ upd_same nb nl
    have y2 := (x1.trans (kb_new np)).trans x2
    obtain ⟨m, hm, em⟩ := pick (xs := [(3 : Int), 10]) (i := r) r0 r1
    have hm2 : 0 < m ∧ m ≤ 10 := by
      simp only [List.mem_cons, List.not_mem_nil, or_false] at hm
      omega
    refine ⟨p, _, _, .int m, rfl, rfl, SqL.of hp2, atI_map (f := V.int) em, b, l, m, rfl, hB2, hm2.1, by omega, fun n H3 n0 n1 hB3 x3 => ⟨1, n, rfl, rfl, ?_⟩⟩
    have y3 := y2.trans x3
    refine ⟨_, rfl, _, _, rfl, rfl, _, rfl, iteB ?_ ?_⟩
    · refine ⟨⟨_, rfl⟩, _, rfl, 1 + n, rfl, by omega, by omega, fun D nD => lc_range (n := (1 + n).toNat) (fun i H' => OnesAt b l H D i H') ?_ ?_ ?_⟩
      · exact OnesAt.start hB3 y3 nD hB
      · rintro i H4 hi o
        refine ⟨rfl, _, rfl, b, l, 10, rfl, o.box, by decide, by decide, fun r4 H5 a0 a1 hB5 x5 => ?_⟩
        obtain ⟨c, hc, ec⟩ := pick (xs := cl "abcdefghij") (i := r4) a0 (by rw [abc_len]; exact a1)
        obtain ⟨acc, hacc, hl, o2⟩ := o.more (c := c) (sg_of (z := "abcdefghij") (by decide +kernel) c hc) hB5 x5
        exact ⟨_, r4, c, rfl, rfl, line10 (by decide +kernel), ec, acc, hacc, by omega, o2⟩
      · rintro H4 o
        obtain ⟨ys, hD, h1, h2, h3⟩ := o.done
        exact ⟨_, D, ys, rfl, rfl, .inl (SqL.of hD), by rw [h2, emp_len]; omega, k _ H4 (h3 (by omega)) o.box o.keep⟩
    · refine ⟨⟨_, rfl⟩, _, rfl, 1 + n, rfl, by omega, by omega, fun D nD => lc_range (n := (1 + n).toNat) (fun i H' => OnesAt b l H D i H') ?_ ?_ ?_⟩
      · exact OnesAt.start hB3 y3 nD hB
      · rintro i H4 hi o
        refine ⟨rfl, _, rfl, b, l, rfl, o.box, fun c H5 hc hB5 x5 => ?_⟩
        obtain ⟨acc, hacc, hl, o2⟩ := o.more (c := c) hc hB5 x5
        exact ⟨acc, hacc, by omega, o2⟩
      · rintro H4 o
        obtain ⟨ys, hD, h1, h2, h3⟩ := o.done
        exact ⟨_, D, ys, rfl, rfl, .inl (SqL.of hD), by rw [h2, emp_len]; omega, k _ H4 (h3 (by omega)) o.box o.keep⟩
end
end TG
namespace TG
open PySem L2 Gx
theorem new_old {b l p : Addr} {H H1 : Hp} (x : KB b l H H1) (hB : BoxAt H1 b l) (n : H1 p = none) : H p = none := by
  obtain ⟨d1, d2⟩ := new_ne hB n
  cases e : H p with
  | none => rfl
  | some o => rw [x p o e d1 d2] at n; cases n
/-- a list of cells at D -/
structure StrsAt (b l : Addr) (H : Hp) (D : Addr) (i : Nat) (H' : Hp) : Prop where
  box : BoxAt H' b l
  keep : KB b l H H'
  nD : H D = none
  db : D ≠ b
  dl : D ≠ l
  zsat : ∃ zs : List Str, zs.length = i ∧ (∀ z ∈ zs, CellOk z) ∧ H' D = some (.lst (sV zs))
theorem StrsAt.start {b l : Addr} {H H1 : Hp} {D : Addr} (hB : BoxAt H1 b l) (x : KB b l H H1) (n : H1 D = none) : StrsAt b l H D 0 (upd H1 D (.lst [])) := by
  obtain ⟨d1, d2⟩ := new_ne hB n
  have nD := new_old x hB n
  exact ⟨box_new hB n, kb_upd x nD, nD, d1, d2, [], rfl, fun c h => by simp at h, upd_same⟩
theorem StrsAt.more {b l : Addr} {H H1 H2 : Hp} {D : Addr} {i : Nat} {z : Str} (o : StrsAt b l H D i H1) (hc : CellOk z) (hB : BoxAt H2 b l) (x : KB b l H1 H2) :
    ∃ acc, H2 D = some (.lst acc) ∧ acc.length = i ∧ StrsAt b l H D (i + 1) (upd H2 D (.lst (acc ++ [.str z]))) := by
  obtain ⟨zs, h1, h2, h3⟩ := o.zsat
  refine ⟨_, x D _ h3 o.db o.dl, by rw [List.length_map, h1], box_upd hB o.db o.dl, kb_upd (o.keep.trans x) o.nD, o.nD, o.db, o.dl, zs ++ [z], by rw [List.length_append, h1]; rfl, fun d hd => ?_, ?_⟩
  · rcases List.mem_append.mp hd with h | h
    · exact h2 d h
    · rw [List.mem_singleton.mp h]; exact hc
  · rw [upd_same]
    simp [sV]
/-- a list of numbers at D, below m -/
structure IntsAt (b l : Addr) (H : Hp) (D : Addr) (i : Nat) (H' : Hp) : Prop where
  box : BoxAt H' b l
  keep : KB b l H H'
  nD : H D = none
  db : D ≠ b
  dl : D ≠ l
  isat : ∃ zs : List Int, zs.length = i ∧ H' D = some (.lst (zs.map V.int))
theorem IntsAt.start {b l : Addr} {H H1 : Hp} {D : Addr} (hB : BoxAt H1 b l) (x : KB b l H H1) (n : H1 D = none) : IntsAt b l H D 0 (upd H1 D (.lst [])) := by
  obtain ⟨d1, d2⟩ := new_ne hB n
  have nD := new_old x hB n
  exact ⟨box_new hB n, kb_upd x nD, nD, d1, d2, [], rfl, upd_same⟩
theorem IntsAt.more {b l : Addr} {H H1 H2 : Hp} {D : Addr} {i : Nat} {z : Int} (o : IntsAt b l H D i H1) (hB : BoxAt H2 b l) (x : KB b l H1 H2) :
    ∃ acc, H2 D = some (.lst acc) ∧ acc.length = i ∧ IntsAt b l H D (i + 1) (upd H2 D (.lst (acc ++ [.int z]))) := by
  obtain ⟨zs, h1, h3⟩ := o.isat
  refine ⟨_, x D _ h3 o.db o.dl, by rw [List.length_map, h1], box_upd hB o.db o.dl, kb_upd (o.keep.trans x) o.nD, o.nD, o.db, o.dl, zs ++ [z], by rw [List.length_append, h1]; rfl, ?_⟩
  rw [upd_same]
  simp
theorem ixm1 {n : Nat} : ixN (n + 1) (-1) = some n := by
  unfold ixN
  rw [if_neg (by decide), if_pos (by omega)]
  congr 1
  omega
theorem atm1 {α : Type} {xs : List α} {n : Nat} {v : α} (hl : xs.length = n + 1) (h : xs[n]? = some v) : atI xs (-1) = some v := by
  unfold atI
  rw [hl, ixm1]
  exact h
/-- rows' tuples -/
def RowsP (H : Hp) (as : List Addr) : Prop := ∀ p ∈ as, ∃ r, H p = some (.tup (sV r)) ∧ RowOk r
theorem RowsP.keep {H H' : Hp} {as : List Addr} (x : RowsP H as) (k : ∀ p xs, H p = some (.tup xs) → H' p = some (.tup xs)) : RowsP H' as := fun p hp => by
  obtain ⟨r, h1, h2⟩ := x p hp
  exact ⟨r, k _ _ h1, h2⟩
theorem RowsP.page {H : Hp} : ∀ {as : List Addr}, RowsP H as → ∃ rows : List (List Str), as.length = rows.length ∧ (∀ (i : Nat) (p : Addr) (r : List Str), as[i]? = some p → rows[i]? = some r → H p = some (.tup (sV r))) ∧ ∀ r ∈ rows, RowOk r
  | [], _ => ⟨[], rfl, fun i p r h => by simp at h, fun r h => by simp at h⟩
  | a :: as, x => by
    obtain ⟨rows, h1, h2, h3⟩ := RowsP.page (as := as) fun p hp => x p (List.mem_cons_of_mem _ hp)
    obtain ⟨r, g1, g2⟩ := x a List.mem_cons_self
    refine ⟨r :: rows, by rw [List.length_cons, List.length_cons, h1], fun i p q e1 e2 => ?_, fun q hq => ?_⟩
    · cases i with
      | zero => cases e1; cases e2; exact g1
      | succ i => exact h2 i p q (by simpa using e1) (by simpa using e2)
    · rcases List.mem_cons.mp hq with z | z
      · rw [z]; exact g2
      · exact h3 q z
theorem kb_tup {b l : Addr} {H H' : Hp} (x : KB b l H H') (hB : BoxAt H b l) : ∀ p xs, H p = some (.tup xs) → H' p = some (.tup xs) := fun p xs h => by
  obtain ⟨ns, st, h1, h2, _⟩ := hB
  exact x p _ h (ne_of h h1 fun z => by cases z) (ne_of h h2 fun z => by cases z)
section
variable {P : Program} {w : World} {K : PySem.W.Frag} {mg : Str → Option Value} {base : Heap} {cs : List (Addr × Addr)}
def spRowD : Sp := fun vs H Q _ => ∃ (b l sr : Addr) (ss : List Int) (m : Int), vs = [.ref b, .ref sr, .int m] ∧ BoxAt H b l ∧ H sr = some (.lst (ss.map V.int)) ∧ ss.length = 6 ∧ sr ≠ b ∧ sr ≠ l ∧ 1 ≤ m ∧ m ≤ 6 ∧
  ∀ (p : Addr) (r : List Str) (H' : Hp), BoxAt H' b l → KB b l H H' → H p = none → H' p = some (.tup (sV r)) → RowOk r → Q (.ref p) H'
abbrev nmRow : List Str := ["_law_box", "_law_sorts", "_law_many", "_law_k"]
theorem sc_lrow : FnScope nmRow ["_law_box", "_law_sorts", "_law_many"] (defScope s_row) := ⟨rfl, rfl, rfl, by decide +kernel, rfl, by decide +kernel, by decide +kernel⟩
theorem ok_lrow {f g : Addr} {fd fdg : FuncData} (T : Txt mg) (F : Fun K "_law_row" "_law_row" s_row f fd)
    (G : FnOk P w K mg base CX0 3 g fdg ["_law_box", "_law_sort"] spCell) (kp : PySem.W.keepIn K (.ref g) = true) (bd : Binds K fdg ["_law_box", "_law_sort"] []) (mgg : mg "_law_cell" = some (.ref g)) : FnOk P w K mg base CX0 4 f fd ["_law_box", "_law_sorts", "_law_many"] spRowD := by
  refine F.ok sc_lrow (fun vs H Q E h => ?_) (fun cdv A outer s H vs Q E hr h => ?_)
  · obtain ⟨b, l, sr, ss, m, rfl, _⟩ := h
    rfl
  · obtain ⟨b, l, sr, ss, m, rfl, hB, hs, h6, sb, sl, m1, m6, k⟩ := h
    have nd := sc_lrow.nd
    have szl : (1000 : Nat) < sizeLine := by decide
    refine ⟨_, pss_one (ps_ret (pe_callTy call_tuple_of (by rfl) T.tuple (by decide +kernel) (pa_cons (pe_lc (own := [("_law_k", 3)]) (g := gName 3) (tt := tYes) rfl nd (pi_range1 (by rfl) T.range (pa_cons (pv 2) pa_nil)) (blkOk_by (own := [("_law_k", 3)]) (N := nmRow) (sc := defScope s_row) (by decide +kernel))
          (fun _ _ _ _ _ => pg_name (i := 3) nd rfl (Or.inl rfl)) (fun _ _ _ _ _ => pts_nil) (fun s1 H1 C1 cl1 fp1 => pe_call G hr (by rfl) mgg kp bd .nil pass0 (pa_cons (pv 0) (pa_cons (pe_ix (r := rIxL K) ix_list (pv 1) (pv 3) (fun _ _ => rfl)) pa_nil)))) pa_nil))), ?_⟩
    refine ⟨_, rfl, m, rfl, by omega, by omega, fun D nD => lc_range (n := m.toNat) (fun i H' => StrsAt b l H D i H') (StrsAt.start hB KB.refl nD) ?_ ?_⟩
    · rintro i H1 hi o
      obtain ⟨sv, hsv⟩ := getP (xs := ss) (i := i) (by omega)
      have hs1 := o.keep sr _ hs sb sl
      refine ⟨rfl, _, rfl, _, rfl, _, rfl, sr, _, _, .int sv, rfl, rfl, SqL.of hs1, by rw [Int.zero_add]; exact atI_nat (by rw [List.getElem?_map, hsv]; rfl), b, l, sv, rfl, o.box, fun z H2 hz hB2 x2 => ?_⟩
      obtain ⟨acc, hacc, hl, o2⟩ := o.more hz hB2 x2
      exact ⟨acc, hacc, by omega, o2⟩
    · rintro H1 o
      obtain ⟨zs, h1, h2, h3⟩ := o.zsat
      refine ⟨D, _, rfl, .inl ⟨SqL.of h3, fun p np => k p zs _ (box_new o.box np) (o.keep.trans (kb_new np)) (new_old o.keep o.box np) upd_same ⟨by omega, by omega, h2⟩⟩⟩
def spPageD : Sp := fun vs H Q _ => ∃ (b l : Addr) (m : Int), vs = [.ref b, .int m] ∧ BoxAt H b l ∧ 1 ≤ m ∧ m ≤ 30 ∧
  ∀ (p : Addr) (as : List Addr) (rows : List (List Str)) (H' : Hp), BoxAt H' b l → KB b l H H' → H p = none → p ≠ b → p ≠ l → H' p = some (.lst (as.map V.ref)) → as.length = rows.length → (∀ (i : Nat) (q : Addr) (r : List Str), as[i]? = some q → rows[i]? = some r → H' q = some (.tup (sV r))) → PgOk rows → Q (.ref p) H'
abbrev nmPage : List Str := ["_law_box", "_law_most", "_law_sorts", "_law_many", "_law_rows", "_law_turn", "_law_way", "_law_k"]
theorem sc_lpage : FnScope nmPage ["_law_box", "_law_most"] (defScope s_page) := ⟨rfl, rfl, rfl, by decide +kernel, rfl, by decide +kernel, by decide +kernel⟩
theorem ok_lpage {f g g2 : Addr} {fd fdg fd2 : FuncData} (T : Txt mg) (F : Fun K "_law_page" "_law_page" s_page f fd)
    (G : FnOk P w K mg base CX0 1 g fdg ["_law_box", "_law_many"] spTake) (kp : PySem.W.keepIn K (.ref g) = true) (bd : Binds K fdg ["_law_box", "_law_many"] []) (mgg : mg "_law_take" = some (.ref g))
    (G2 : FnOk P w K mg base CX0 4 g2 fd2 ["_law_box", "_law_sorts", "_law_many"] spRowD) (kp2 : PySem.W.keepIn K (.ref g2) = true) (bd2 : Binds K fd2 ["_law_box", "_law_sorts", "_law_many"] []) (mg2 : mg "_law_row" = some (.ref g2)) : FnOk P w K mg base CX0 5 f fd ["_law_box", "_law_most"] spPageD := by
  refine F.ok sc_lpage (fun vs H Q E h => ?_) (fun cdv A outer s H vs Q E hr h => ?_)
  · obtain ⟨b, l, m, rfl, _⟩ := h
    rfl
  · obtain ⟨b, l, m, rfl, hB, m1, m30, k⟩ := h
    have nd := sc_lpage.nd
    have szl : (1000 : Nat) < sizeLine := by decide
    have hr1 : Room 1 _ := hr.mono (by decide)
    refine ⟨_, pss_cons (ps_setLc (i := 2) (own := [("_law_k", 7)]) (g := gName 7) rfl nd rfl rfl (sw_true rfl rfl rfl (by decide +kernel)) (pi_range1 (by rfl) T.range (pa_cons pe_int pa_nil)) (blkOk_by (own := [("_law_k", 7)]) (N := nmPage) (sc := defScope s_page) (by decide +kernel))
          (fun _ _ _ _ _ => pg_name (i := 7) nd rfl (Or.inl rfl)) (fun _ _ _ _ _ => pts_nil) (fun s1 H1 C1 cl1 fp1 => pe_call G hr1 (by rfl) mgg kp bd .nil pass0 (pa_cons (pv 0) (pa_cons pe_int pa_nil))))
      (pss_cons (ps_par (i := 3) (j := 4) rfl nd rfl rfl (by decide) rfl rfl (pa_cons (pe_op op_add pe_int (pe_call G hr1 (by rfl) mgg kp bd .nil pass0 (pa_cons (pv 0) (pa_cons pe_int pa_nil)))) (pa_cons (pe_lst pa_nil) pa_nil)) (by rfl))
      (pss_cons (ps_for PassesOwn.never rfl (pi_range1 (by rfl) T.range (pa_cons (pe_op op_add pe_int (pe_call G hr1 (by rfl) mgg kp bd .nil pass0 (pa_cons (pv 0) (pa_cons (pv 1) pa_nil)))) pa_nil)) (pg_name (i := 5) nd rfl (.inl rfl))
        (pss_cons (ps_set (i := 6) nd rfl (.inl rfl) (pe_call G hr1 (by rfl) mgg kp bd .nil pass0 (pa_cons (pv 0) (pa_cons pe_int pa_nil))))
        (pss_cons (ps_set (i := 3) nd rfl (.inl rfl) (pe_ix ix_list (pe_lst (pa_cons (pe_op op_add pe_int (pe_call G hr1 (by rfl) mgg kp bd .nil pass0 (pa_cons (pv 0) (pa_cons pe_int pa_nil)))) (pa_cons (pe_callB (call_max2 rfl) (by rfl) T.max (by decide +kernel) (pa_cons pe_int (pa_cons (pe_op op_sub (pv 3) pe_int) pa_nil)))
            (pa_cons (pe_callB (call_min2 rfl) (by rfl) T.min (by decide +kernel) (pa_cons pe_int (pa_cons (pe_op op_add (pv 3) pe_int) pa_nil))) (pa_cons (pv 3) pa_nil))))) (pe_callB (call_min2 rfl) (by rfl) T.min (by decide +kernel) (pa_cons (pv 6) (pa_cons pe_int pa_nil))) (fun _ _ => rfl)))
        (pss_cons (ps_expr (pe_bm PySem.F.plainAttrs_list PySem.F.slot_list_append PySem.F.type_list_append mt_append (pv 4) (pa_cons (pe_call G2 hr (by rfl) mg2 kp2 bd2 .nil pass0 (pa_cons (pv 0) (pa_cons (pv 2) (pa_cons (pv 3) pa_nil)))) pa_nil)))
        (pss_one (ps_if (pt_cmpR op_eq (pv 6) pe_int (nomark _))
          (pss_cons (ps_asg (pe_ix ix_list (pv 4) (pe_call G hr1 (by rfl) mgg kp bd .nil pass0 (pa_cons (pv 0) (pa_cons (pe_callB call_len_seq (by rfl) T.len PySem.boot_len (pa_cons (pv 4) pa_nil)) pa_nil))) (fun _ _ => rfl)) (pg_sub (pv 4) (pe_un un_neg pe_int) set_list))
          (pss_one (ps_set (i := 3) nd rfl (.inl rfl) (pe_callB call_len_seq (by rfl) T.len PySem.boot_len (pa_cons (pe_ix ix_list (pv 4) (pe_un un_neg pe_int) (fun _ _ => rfl)) pa_nil))))) pss_nil))))))
      (pss_one (ps_ret (pv 4))))), ?_⟩
    refine ⟨6, rfl, by decide, by decide, fun sr nsr => lc_range (n := 6) (fun i H' => IntsAt b l H sr i H') (IntsAt.start hB KB.refl nsr) ?_ ?_⟩
    · rintro i H1 hi o
      refine ⟨rfl, _, rfl, b, l, 2, rfl, o.box, by decide, by decide, fun r H2 r0 r1 hB2 x2 => ?_⟩
      obtain ⟨acc, hacc, hl, o2⟩ := o.more (z := r) hB2 x2
      exact ⟨acc, hacc, by omega, o2⟩
    rintro H1 ⟨hB1, x1, nsr, sb, sl, ss, h6, hs1⟩
    refine ⟨_, rfl, b, l, 6, rfl, hB1, by decide, by decide, fun m0 H2 a0 a1 hB2 x2 => ⟨1, m0, rfl, rfl, small0, fun lr nlr => ⟨_, _, rfl, ?_⟩⟩⟩
    have hs2 := x2 sr _ hs1 sb sl
    have y2 := x1.trans x2
    obtain ⟨lb, ll⟩ := new_ne hB2 nlr
    have lrs : lr ≠ sr := fun z => by rw [z, hs2] at nlr; cases nlr
    have nlr0 := new_old y2 hB2 nlr
    refine ⟨_, rfl, _, rfl, b, l, m, rfl, box_new hB2 nlr, by omega, by omega, fun tt H4 t0 t1 hB4 x4 => ⟨1, tt, rfl, rfl, 1 + tt, rfl, by omega, by omega, ?_⟩⟩
    have hs4 : H4 sr = some (.lst (ss.map V.int)) := x4 sr _ (by rw [upd_ne lrs.symm]; exact hs2) sb sl
    have y4 := (y2.trans (kb_new nlr)).trans x4
    have hl4 : H4 lr = some (.lst []) := x4 lr _ upd_same lb ll
    refine for_range (n := (1 + tt).toNat) (fun i σ H' => ∃ (mm : Int) (as : List Addr) (c5 c6 : Option V), σ = [some (.ref b), some (.int m), some (.ref sr), some (.int mm), some (.ref lr), c5, c6, none] ∧ 1 ≤ mm ∧ mm ≤ 6 ∧ BoxAt H' b l ∧ KB b l H H' ∧ H' sr = some (.lst (ss.map V.int)) ∧ H' lr = some (.lst (as.map V.ref)) ∧ as.length = i ∧ RowsP H' as)
      ⟨1 + m0, [], none, none, rfl, by omega, by omega, hB4, y4, hs4, hl4, rfl, fun p h => by simp at h⟩ ?_ ?_
    · rintro i σ H5 hi ⟨mm, as, c5, c6, rfl, mm1, mm6, hB5, y5, hs5, hl5, hlen, hR5⟩
      refine ⟨_, rfl, b, l, 8, rfl, hB5, by decide, by decide, fun way H6 w0 w1 hB6 x6 => ?_⟩
      refine ⟨_, rfl, b, l, 6, rfl, hB6, by decide, by decide, fun n6 H7 n0 n1 hB7 x7 => ⟨1, n6, rfl, rfl, _, rfl, mm, 1, rfl, rfl, 1, mm - 1, rfl, _, rfl, mm, 1, rfl, rfl, 6, mm + 1, rfl, _, rfl, line10 (by show 4 ≤ 1000; decide), fun q nq => ?_⟩⟩
      obtain ⟨mv, hmv, emv⟩ := pick (xs := [1 + n6, (if mm - 1 > 1 then mm - 1 else 1), (if mm + 1 < 6 then mm + 1 else 6), mm]) (i := if 3 < way then 3 else way) (by split <;> omega) (by show _ < (4 : Int); split <;> omega)
      have hmv2 : 1 ≤ mv ∧ mv ≤ 6 := by
        simp only [List.mem_cons, List.not_mem_nil, or_false] at hmv
        rcases hmv with h | h | h | h
        · omega
        · split at h <;> omega
        · split at h <;> omega
        · omega
      refine ⟨_, rfl, way, 3, rfl, q, _, _, .int mv, rfl, rfl, SqL.of upd_same, atI_map (f := V.int) emv, ?_⟩
      have y7 : KB b l H5 (upd H7 q (.lst (List.map V.int [1 + n6, (if mm - 1 > 1 then mm - 1 else 1), (if mm + 1 < 6 then mm + 1 else 6), mm]))) := (x6.trans x7).trans (kb_new nq)
      have hB8 := box_new (o := .lst (List.map V.int [1 + n6, (if mm - 1 > 1 then mm - 1 else 1), (if mm + 1 < 6 then mm + 1 else 6), mm])) hB7 nq
      have hl8 := y7 lr _ hl5 lb ll
      have hs8 := y7 sr _ hs5 sb sl
      refine ⟨_, rfl, .inl ⟨rfl, _, SqL.of hl8⟩, _, rfl, _, rfl, _, rfl, b, l, sr, ss, mv, rfl, hB8, hs8, h6, sb, sl, hmv2.1, hmv2.2, fun p r H9 hB9 x9 np hp hro => ?_⟩
      have hl9 := x9 lr _ hl8 lb ll
      have hs9 := x9 sr _ hs8 sb sl
      have plr : p ≠ lr := fun z => by rw [z, hl9] at hp; cases hp
      refine ⟨lr, _, .ref p, rfl, rfl, hl9, by rw [List.length_map]; omega, ?_⟩
      have el : as.map V.ref ++ [V.ref p] = (as ++ [p]).map V.ref := by simp
      rw [el]
      have y9 := kb_upd (o := .lst ((as ++ [p]).map V.ref)) (y5.trans (y7.trans x9)) nlr0
      have hB10 := box_upd (o := .lst ((as ++ [p]).map V.ref)) hB9 lb ll
      have hl10 : (upd H9 lr (.lst ((as ++ [p]).map V.ref))) lr = some (.lst ((as ++ [p]).map V.ref)) := upd_same
      have hs10 : (upd H9 lr (.lst ((as ++ [p]).map V.ref))) sr = some (.lst (ss.map V.int)) := by rw [upd_ne lrs.symm]; exact hs9
      have hR10 : RowsP (upd H9 lr (.lst ((as ++ [p]).map V.ref))) (as ++ [p]) := fun u hu => by
        rcases List.mem_append.mp hu with h | h
        · obtain ⟨r2, e1, e2⟩ := hR5 u h
          have e3 := kb_tup (y7.trans x9) hB5 u _ e1
          exact ⟨r2, by rw [upd_ne (fun z => by rw [z, hl9] at e3; cases e3)]; exact e3, e2⟩
        · rw [List.mem_singleton.mp h]
          exact ⟨r, by rw [upd_ne plr]; exact hp, hro⟩
      have hlen2 : (as ++ [p]).length = i + 1 := by rw [List.length_append, hlen]; rfl
      generalize (upd H9 lr (.lst ((as ++ [p]).map V.ref))) = H10 at y9 hB10 hl10 hs10 hR10 ⊢
      generalize as ++ [p] = as2 at hl10 hR10 hlen2 ⊢
      refine ⟨_, rfl, rfl, _, rfl, iteB ?_ ?_⟩
      · have ln : ((as2.map V.ref).length : Int) = ((i + 1 : Nat) : Int) := by rw [List.length_map, hlen2]
        refine ⟨_, rfl, _, rfl, _, rfl, lr, _, rfl, .inl (SqL.of hl10), b, l, _, rfl, hB10, by omega, by omega, fun j H11 j0 j1 hB11 x11 => ?_⟩
        have hl11 := x11 lr _ hl10 lb ll
        obtain ⟨u, hu, eu⟩ := pick (xs := as2) (i := j) j0 (by rw [hlen2]; omega)
        obtain ⟨r2, e1, e2⟩ := hR10 u hu
        have e3 := kb_tup x11 hB10 u _ e1
        have ulr : u ≠ lr := fun z => by rw [z, hl11] at e3; cases e3
        have ix : ixN (as2.map V.ref).length (-1) = some i := by rw [List.length_map, hlen2]; exact ixm1
        refine ⟨lr, _, j, .ref u, rfl, rfl, SqL.of hl11, atI_map eu, _, rfl, 1, rfl, lr, _, -1, i, rfl, rfl, hl11, ix, ?_⟩
        have es : (as2.map V.ref).set i (V.ref u) = (as2.set i u).map V.ref := by rw [List.map_set]
        rw [es]
        have gu : (as2.set i u)[i]? = some u := List.getElem?_set_self (by omega)
        have hs11 := x11 sr _ hs10 sb sl
        refine ⟨_, rfl, 1, rfl, lr, _, -1, .ref u, rfl, rfl, SqL.of upd_same, atm1 (n := i) (by rw [List.length_map, List.length_set, hlen2]) (by rw [List.getElem?_map, gu]; rfl), u, _, rfl, .inr (SqT.of (by rw [upd_ne ulr]; exact e3)), ?_⟩
        have l1 := e2.pos
        have l2 := e2.len
        have lr2 : (sV r2).length = r2.length := List.length_map ..
        refine ⟨_, as2.set i u, _, _, rfl, by omega, by omega, box_upd hB11 lb ll, kb_upd (y9.trans x11) nlr0, by rw [upd_ne lrs.symm]; exact hs11, upd_same, by rw [List.length_set, hlen2], fun v hv => ?_⟩
        rcases List.mem_or_eq_of_mem_set hv with h | h
        · obtain ⟨r3, f1, f2⟩ := hR10 v h
          have f3 := kb_tup x11 hB10 v _ f1
          exact ⟨r3, by rw [upd_ne (fun z => by rw [z, hl11] at f3; cases f3)]; exact f3, f2⟩
        · rw [h]
          exact ⟨r2, by rw [upd_ne ulr]; exact e3, e2⟩
      · exact ⟨_, as2, _, _, rfl, hmv2.1, hmv2.2, hB10, y9, hs10, hl10, hlen2, hR10⟩
    · rintro σ H5 ⟨mm, as, c5, c6, rfl, mm1, mm6, hB5, y5, hs5, hl5, hlen, hR5⟩
      obtain ⟨rows, g1, g2, g3⟩ := hR5.page
      exact ⟨_, rfl, k lr as rows H5 hB5 y5 nlr0 lb ll hl5 g1 g2 ⟨by omega, by omega, g3⟩⟩
def spStyleD : Sp := fun vs H Q _ => ∃ (b l : Addr), vs = [.ref b] ∧ BoxAt H b l ∧
  ∀ (p : Addr) (gap least : Int) (H' : Hp), BoxAt H' b l → KB b l H H' → H p = none → H' p = some (.tup [.int gap, .int least]) → 0 ≤ gap → gap ≤ 4 → 0 ≤ least → least ≤ 12 → Q (.ref p) H'
theorem sc_lstyle : FnScope ["_law_box", "_law_gap"] ["_law_box"] (defScope s_style) := ⟨rfl, rfl, rfl, by decide +kernel, rfl, by decide +kernel, by decide +kernel⟩
theorem ok_lstyle {f g : Addr} {fd fdg : FuncData} (F : Fun K "_law_style" "_law_style" s_style f fd)
    (G : FnOk P w K mg base CX0 1 g fdg ["_law_box", "_law_many"] spTake) (kp : PySem.W.keepIn K (.ref g) = true) (bd : Binds K fdg ["_law_box", "_law_many"] []) (mgg : mg "_law_take" = some (.ref g)) : FnOk P w K mg base CX0 2 f fd ["_law_box"] spStyleD := by
  refine F.ok sc_lstyle (fun vs H Q E h => ?_) (fun cdv A outer s H vs Q E hr h => ?_)
  · obtain ⟨b, l, rfl, _⟩ := h
    rfl
  · obtain ⟨b, l, rfl, hB, k⟩ := h
    have nd := sc_lstyle.nd
    refine ⟨_, pss_cons (ps_set (i := 1) nd rfl (.inl rfl) (pe_ix ix_list (pe_lst (pa_cons (pe_call G hr (by rfl) mgg kp bd .nil pass0 (pa_cons (pv 0) (pa_cons pe_int pa_nil))) (pa_cons pe_int (pa_cons pe_int pa_nil)))) (pe_call G hr (by rfl) mgg kp bd .nil pass0 (pa_cons (pv 0) (pa_cons pe_int pa_nil))) (fun _ _ => rfl)))
      (pss_one (ps_ret (pe_tup (pa_cons (pv 1) (pa_cons (pe_ix ix_list (pe_lst (pa_cons pe_int (pa_cons (pe_call G hr (by rfl) mgg kp bd .nil pass0 (pa_cons (pv 0) (pa_cons pe_int pa_nil))) (pa_cons (pe_call G hr (by rfl) mgg kp bd .nil pass0 (pa_cons (pv 0) (pa_cons pe_int pa_nil))) pa_nil))))
        (pe_call G hr (by rfl) mgg kp bd .nil pass0 (pa_cons (pv 0) (pa_cons pe_int pa_nil))) (fun _ _ => rfl)) pa_nil))))), ?_⟩
    refine ⟨_, rfl, b, l, 5, rfl, hB, by decide, by decide, fun g0 H1 a0 a1 hB1 x1 => ⟨line10 (by show 3 ≤ 1000; decide), fun p np => ⟨_, rfl, b, l, 3, rfl, box_new hB1 np, by decide, by decide, fun r H2 r0 r1 hB2 x2 => ?_⟩⟩⟩
    obtain ⟨nb, nl⟩ := new_ne hB1 np
    have hp := x2 p _ upd_same nb nl
    obtain ⟨gap, hg, eg⟩ := pick (xs := [g0, 1, 2]) (i := r) r0 r1
    have hg2 : 0 ≤ gap ∧ gap ≤ 4 := by
      simp only [List.mem_cons, List.not_mem_nil, or_false] at hg
      omega
    have y2 := (x1.trans (kb_new np)).trans x2
    refine ⟨p, _, _, .int gap, rfl, rfl, SqL.of hp, atI_map (f := V.int) eg, ?_⟩
    refine ⟨_, rfl, _, rfl, b, l, 13, rfl, hB2, by decide, by decide, fun l1 H3 b0 b1 hB3 x3 => ⟨_, rfl, b, l, 13, rfl, hB3, by decide, by decide, fun l2 H4 c0 c1 hB4 x4 => ⟨line10 (by show 3 ≤ 1000; decide), fun q nq => ⟨_, rfl, b, l, 3, rfl, box_new hB4 nq, by decide, by decide, fun r2 H5 s0 s1 hB5 x5 => ?_⟩⟩⟩⟩
    obtain ⟨nb2, nl2⟩ := new_ne hB4 nq
    have hq := x5 q _ upd_same nb2 nl2
    obtain ⟨least, hl, el⟩ := pick (xs := [0, l1, l2]) (i := r2) s0 s1
    have hl2 : 0 ≤ least ∧ least ≤ 12 := by
      simp only [List.mem_cons, List.not_mem_nil, or_false] at hl
      omega
    have y5 := (((y2.trans x3).trans x4).trans (kb_new nq)).trans x5
    exact ⟨q, _, _, .int least, rfl, rfl, SqL.of hq, atI_map (f := V.int) el, line10 (by show 2 ≤ 1000; decide), fun t nt => k t gap least _ (box_new hB5 nt) (y5.trans (kb_new nt)) (new_old y5 hB5 nt) upd_same hg2.1 hg2.2 hl2.1 hl2.2⟩
end
end TG
namespace TG
open PySem L2 Gx
theorem same_trans {H H1 H2 : Hp} (a : Same H H1) (b : Same H1 H2) : Same H H2 := fun c o h => b c o (a c o h)
theorem same_new {H : Hp} {p : Addr} {o : HO} (n : H p = none) : Same H (upd H p o) := fun c u h => by rw [upd_ne (ne_of_none h n)]; exact h
theorem same_upd {H H' : Hp} {p : Addr} {o : HO} (x : Same H H') (n : H p = none) : Same H (upd H' p o) := fun c u h => by rw [upd_ne (ne_of_none h n)]; exact x c u h
theorem same_sqL {K : PySem.W.Frag} {H H' : Hp} {a : Addr} {xs : List V} (e : Same H H') (h : SqL K H a xs) : SqL K H' a xs := by
  rcases h with (z | ⟨o, z⟩) | z
  · exact .inl (.inl (e _ _ z))
  · exact .inl (.inr ⟨o, e _ _ z⟩)
  · exact .inr z
theorem same_sqT {K : PySem.W.Frag} {H H' : Hp} {a : Addr} {xs : List V} (e : Same H H') (h : SqT K H a xs) : SqT K H' a xs := by
  rcases h with (z | ⟨o, z⟩) | z
  · exact .inl (.inl (e _ _ z))
  · exact .inl (.inr ⟨o, e _ _ z⟩)
  · exact .inr z
theorem PageAt.same {K : PySem.W.Frag} {H H' : Hp} {a : Addr} {as : List Addr} {rows : List (List Str)} (p : PageAt K H a as rows) (e : Same H H') : PageAt K H' a as rows :=
  ⟨same_sqL e p.lst, p.len, fun i q r h1 h2 => same_sqT e (p.row i q r h1 h2)⟩
theorem same_old {H H' : Hp} {p : Addr} (e : Same H H') (n : H' p = none) : H p = none := by
  cases q : H p with
  | none => rfl
  | some o => rw [e _ _ q] at n; cases n
theorem canAll_strs : ∀ {zs : List Str}, (∀ z ∈ zs, ∀ c ∈ cl z, SgOk c) → PyData.canLayAll0 (zs.map PyData.str) = true
  | [], _ => rfl
  | z :: zs, h => by
    rw [List.map_cons]
    simp only [PyData.canLayAll0, PyData.canLay0, Bool.and_eq_true]
    refine ⟨?_, canAll_strs fun y hy => h y (List.mem_cons_of_mem _ hy)⟩
    unfold PyData.strOk
    rw [← Array.all_toList, List.all_eq_true]
    intro c hc
    have := h z List.mem_cons_self c hc
    unfold SgOk at this
    exact decide_eq_true (by omega)
theorem depthAll_strs : ∀ zs : List Str, PyData.depthAll (zs.map PyData.str) = 0
  | [] => rfl
  | _ :: r => by simp [PyData.depthAll, PyData.depth, depthAll_strs r]
theorem dp_strs {K : PySem.W.Frag} {H : Hp} : ∀ zs : List Str, DpAll K H (sV zs) (zs.map PyData.str)
  | [] => .nil
  | z :: zs => .cons (.str z) (dp_strs zs)
section
variable {P : Program} {w : World} {K : PySem.W.Frag} {mg : Str → Option Value} {base : Heap} {cs : List (Addr × Addr)}
end
end TG
namespace TG
open PySem L2 Gx
def loB (rows : List (List Str)) (c : Nat) : Nat → Nat
  | 0 => 0
  | i + 1 => if clB rows c i = true then loB rows c i else i + 1
theorem lo_eq {rows : List (List Str)} {c i : Nat} : (loB rows c i = i) ↔ (i = 0 ∨ clB rows c (i - 1) = false) := by
  have le : ∀ j, loB rows c j ≤ j := by
    intro j
    induction j with
    | zero => exact Nat.le_refl _
    | succ j ih =>
      show (if clB rows c j = true then loB rows c j else j + 1) ≤ j + 1
      split
      · omega
      · omega
  cases i with
  | zero => exact ⟨fun _ => .inl rfl, fun _ => rfl⟩
  | succ i =>
    rw [Nat.add_sub_cancel]
    show (if clB rows c i = true then loB rows c i else i + 1) = i + 1 ↔ _
    have := le i
    by_cases h : clB rows c i = true
    · rw [if_pos h, h]
      constructor
      · intro q; omega
      · intro q
        rcases q with q | q
        · omega
        · cases q
    · rw [if_neg h]
      constructor
      · intro _; exact .inr (by cases q : clB rows c i with
          | true => exact absurd q h
          | false => rfl)
      · intro _; rfl
section
variable {P : Program} {w : World} {K : PySem.W.Frag} {mg : Str → Option Value} {base : Heap} {cs : List (Addr × Addr)}
end
end TG
namespace TG
open PySem L2 Gx
theorem st_cl {rows : List (List Str)} {c i : Nat} (h : stB rows c i = true) : clB rows c i = true ∧ loB rows c i = i ∧ hiB rows c (i + 1) = hiB rows c i ∧ i < hiB rows c i ∧ hiB rows c i ≤ rows.length ∧ ∀ j, i ≤ j → j < hiB rows c i → clB rows c j = true := by
  unfold stB at h
  obtain ⟨h1, h2⟩ := Bool.and_eq_true_iff.mp h
  refine ⟨h1, lo_eq.mpr ?_, (hi_yes h1).symm, ?_, hi_le (Nat.le_of_lt (cl_lt h1)), fun j h3 h4 => hi_in (j - i) i j (by omega) h4⟩
  · rcases Bool.or_eq_true_iff.mp h2 with q | q
    · exact .inl (of_decide_eq_true q)
    · exact .inr (by simpa using q)
  · rw [hi_yes h1]; exact hi_ge rows c (i + 1)
end TG
namespace TG
open PySem L2 Gx
theorem lo_le (rows : List (List Str)) (c : Nat) : ∀ i, loB rows c i ≤ i
  | 0 => Nat.le_refl _
  | i + 1 => by
    show (if clB rows c i = true then loB rows c i else i + 1) ≤ i + 1
    have := lo_le rows c i
    split <;> omega
theorem lo_in {rows : List (List Str)} {c : Nat} : ∀ {i j : Nat}, loB rows c i ≤ j → j < i → clB rows c j = true
  | 0, j, _, h => absurd h (Nat.not_lt_zero _)
  | i + 1, j, h1, h2 => by
    have h1 : (if clB rows c i = true then loB rows c i else i + 1) ≤ j := h1
    split at h1
    · rename_i q
      by_cases e : j = i
      · rw [e]; exact q
      · exact lo_in h1 (by omega)
    · omega
theorem st_lo {rows : List (List Str)} {c i : Nat} (h : clB rows c i = true) : stB rows c (loB rows c i) = true := by
  have h1 := lo_le rows c i
  have h2 : clB rows c (loB rows c i) = true := by
    by_cases e : loB rows c i = i
    · rw [e]; exact h
    · exact lo_in (Nat.le_refl _) (by omega)
  unfold stB
  rw [h2, Bool.true_and]
  have h3 : loB rows c i = 0 ∨ clB rows c (loB rows c i - 1) = false := by
    clear h h2 h1
    induction i with
    | zero => exact .inl rfl
    | succ i ih =>
      show (if clB rows c i = true then loB rows c i else i + 1) = 0 ∨ clB rows c ((if clB rows c i = true then loB rows c i else i + 1) - 1) = false
      by_cases q : clB rows c i = true
      · rw [if_pos q]; exact ih
      · rw [if_neg q, Nat.add_sub_cancel]
        exact .inr (by simpa using q)
  rcases h3 with q | q
  · rw [decide_eq_true q, Bool.true_or]
  · rw [q, Bool.not_false, Bool.or_true]
theorem hi_down {rows : List (List Str)} {c x : Nat} : ∀ {d : Nat}, (∀ j, x ≤ j → j < x + d → clB rows c j = true) → hiB rows c x = hiB rows c (x + d)
  | 0, _ => rfl
  | d + 1, h => by
    rw [hi_down (d := d) fun j h1 h2 => h j h1 (by omega), hi_yes (h (x + d) (by omega) (by omega)), Nat.add_assoc]
theorem hi_lo (rows : List (List Str)) (c i : Nat) : hiB rows c (loB rows c i) = hiB rows c i := by
  have h := lo_le rows c i
  obtain ⟨d, hd⟩ := Nat.exists_eq_add_of_le h
  have := hi_down (rows := rows) (c := c) (x := loB rows c i) (d := d) fun j h1 h2 => lo_in h1 (by omega)
  rw [this, ← hd]
theorem lo_same {rows : List (List Str)} {c x : Nat} (h : stB rows c x = true) : ∀ {d : Nat}, x + d < hiB rows c x → loB rows c (x + d) = x
  | 0, _ => (st_cl h).2.1
  | d + 1, hd => by
    show (if clB rows c (x + d) = true then loB rows c (x + d) else x + d + 1) = x
    rw [if_pos ((st_cl h).2.2.2.2.2 (x + d) (by omega) (by omega))]
    exact lo_same h (by omega)
/-- a closed cell's stretch -/
theorem cl_run {rows : List (List Str)} {c i : Nat} (h : clB rows c i = true) : loB rows c i ≤ i ∧ i < hiB rows c i ∧ hiB rows c (i + 1) = hiB rows c i ∧ hiB rows c i ≤ rows.length ∧ ∀ j, loB rows c i ≤ j → j < hiB rows c i → clB rows c j = true := by
  obtain ⟨_, _, _, _, h2, h3⟩ := st_cl (st_lo h)
  rw [hi_lo] at h2 h3
  refine ⟨lo_le rows c i, ?_, (hi_yes h).symm, h2, h3⟩
  rw [hi_yes h]
  exact hi_ge rows c (i + 1)
abbrev covB (i : Nat) (q : Nat × Nat × Nat) : Bool := decide (q.2.1 ≤ i ∧ i < q.2.2)
theorem filter_one {p : Nat → Bool} {a : Nat} (h : ∀ x, p x = decide (x = a)) : ∀ n, (List.range n).filter p = if a < n then [a] else [] := by
  intro n
  induction n with
  | zero => simp
  | succ n ih =>
    rw [List.range_succ, List.filter_append, ih]
    by_cases e : n = a
    · subst e
      rw [if_neg (Nat.lt_irrefl _), if_pos (Nat.lt_succ_self _), List.filter_cons_of_pos (by rw [h]; exact decide_eq_true rfl)]
      rfl
    · rw [List.filter_cons_of_neg (by rw [h, decide_eq_false e]; exact Bool.false_ne_true), List.filter_nil, List.append_nil]
      by_cases q : a < n
      · rw [if_pos q, if_pos (by omega)]
      · rw [if_neg q, if_neg (by omega)]
theorem col_cov (rows : List (List Str)) (c i : Nat) : (ofCol rows c).filter (covB i) = if clB rows c i = true then [(c, loB rows c i, hiB rows c i)] else [] := by
  unfold ofCol runsB
  rw [List.map_map, List.filter_map]
  rw [List.filter_filter]
  by_cases h : clB rows c i = true
  · rw [if_pos h]
    have hp : ∀ x, (((covB i) ∘ ((fun p : Nat × Nat => (c, p.1, p.2)) ∘ fun i => (i, hiB rows c i))) x && stB rows c x) = decide (x = loB rows c i) := fun x => by
      rw [Bool.eq_iff_iff, Bool.and_eq_true, decide_eq_true_eq]
      constructor
      · rintro ⟨h1, h2⟩
        obtain ⟨h3, h4⟩ := of_decide_eq_true h1
        have h3 : x ≤ i := h3
        have h4 : i < hiB rows c x := h4
        obtain ⟨d, hd⟩ := Nat.exists_eq_add_of_le h3
        rw [hd]
        exact (lo_same h2 (by omega)).symm
      · intro e
        subst e
        obtain ⟨h1, h2, _⟩ := cl_run h
        refine ⟨decide_eq_true ⟨h1, ?_⟩, st_lo h⟩
        show i < hiB rows c (loB rows c i)
        rw [hi_lo]; exact h2
    rw [filter_one hp, if_pos (Nat.lt_of_le_of_lt (lo_le rows c i) (cl_lt h))]
    show [(c, loB rows c i, hiB rows c (loB rows c i))] = _
    rw [hi_lo]
  · rw [if_neg h]
    have : List.filter (fun x => ((covB i) ∘ ((fun p : Nat × Nat => (c, p.1, p.2)) ∘ fun i => (i, hiB rows c i))) x && stB rows c x) (List.range rows.length) = [] := by
      refine List.filter_eq_nil_iff.mpr fun x _ q => ?_
      obtain ⟨h1, h2⟩ := Bool.and_eq_true_iff.mp q
      obtain ⟨h3, h4⟩ := of_decide_eq_true h1
      have h3 : x ≤ i := h3
      have h4 : i < hiB rows c x := h4
      exact h ((st_cl h2).2.2.2.2.2 i h3 h4)
    rw [this]
    rfl
/-- how many cells of row i are closed -/
def ncl (rows : List (List Str)) (i : Nat) : Nat := match rows[i]? with
  | some r => r.length - 1
  | none => 0
theorem cl_ncl (rows : List (List Str)) (c i : Nat) : clB rows c i = decide (c < ncl rows i) := by
  unfold clB ncl
  cases rows[i]? with
  | none => exact (decide_eq_false (Nat.not_lt_zero _)).symm
  | some r =>
    show decide (c + 1 < r.length) = decide (c < r.length - 1)
    exact decide_eq_decide.mpr (by omega)
def entOf (rows : List (List Str)) (i c : Nat) : Nat × Nat × Nat := (c, loB rows c i, hiB rows c i)
theorem flat_if {α : Type} {f : Nat → α} {m : Nat} : ∀ d, (List.range d).flatMap (fun c => if c < m then [f c] else []) = (List.range (min d m)).map f := by
  intro d
  induction d with
  | zero => simp
  | succ d ih =>
    rw [List.range_succ, List.flatMap_append, ih, List.flatMap_cons, List.flatMap_nil, List.append_nil]
    by_cases h : d < m
    · rw [if_pos h, Nat.min_eq_left (by omega), Nat.min_eq_left (by omega), List.range_succ, List.map_append]
      rfl
    · rw [if_neg h, List.append_nil, Nat.min_eq_right (by omega), Nat.min_eq_right (by omega)]
theorem ncl_le {rows : List (List Str)} (hO : PgOk rows) (i : Nat) : ncl rows i ≤ 5 := by
  unfold ncl
  cases q : rows[i]? with
  | none => exact Nat.zero_le _
  | some r =>
    have := (hO.rows r (List.mem_of_getElem? q)).len
    show r.length - 1 ≤ 5
    omega
/-- the entries that hold row i, in turn -/
theorem ent_cov {rows : List (List Str)} (hO : PgOk rows) (i : Nat) : (entB rows).filter (covB i) = (List.range (ncl rows i)).map (entOf rows i) := by
  unfold entB
  rw [List.filter_flatMap]
  have e : (fun c => (ofCol rows c).filter (covB i)) = fun c => if c < ncl rows i then [entOf rows i c] else [] := by
    funext c
    rw [col_cov, cl_ncl]
    by_cases h : c < ncl rows i
    · rw [if_pos (decide_eq_true h), if_pos h]; rfl
    · rw [if_neg (by rw [decide_eq_false h]; exact Bool.false_ne_true), if_neg h]
  rw [e, flat_if, Nat.min_eq_right (ncl_le hO i)]
def cntB (rows : List (List Str)) (j i : Nat) : Nat := (((entB rows).take j).filter (covB i)).length
theorem cnt_all {rows : List (List Str)} (hO : PgOk rows) (i : Nat) : cntB rows (entB rows).length i = ncl rows i := by
  unfold cntB
  rw [List.take_of_length_le (Nat.le_refl _), ent_cov hO, List.length_map, List.length_range]
theorem cnt_no {rows : List (List Str)} {j i : Nat} {q : Nat × Nat × Nat} (hq : (entB rows)[j]? = some q) (h : covB i q = false) : cntB rows (j + 1) i = cntB rows j i := by
  unfold cntB
  rw [List.take_add_one, hq, List.filter_append]
  have : List.filter (covB i) (some q).toList = [] := by
    show List.filter (covB i) [q] = []
    rw [List.filter_cons_of_neg (by rw [h]; exact Bool.false_ne_true)]
    rfl
  rw [this, List.append_nil]
theorem cnt_yes {rows : List (List Str)} (hO : PgOk rows) {j i : Nat} {q : Nat × Nat × Nat} (hq : (entB rows)[j]? = some q) (h : covB i q = true) : cntB rows (j + 1) i = cntB rows j i + 1 ∧ q = entOf rows i (cntB rows j i) ∧ cntB rows j i < ncl rows i := by
  have e1 : ((entB rows).take (j + 1)).filter (covB i) = ((entB rows).take j).filter (covB i) ++ [q] := by
    rw [List.take_add_one, hq, List.filter_append]
    congr 1
    show List.filter (covB i) [q] = [q]
    rw [List.filter_cons_of_pos h]
    rfl
  have e2 : (entB rows).filter (covB i) = (((entB rows).take j).filter (covB i) ++ [q]) ++ ((entB rows).drop (j + 1)).filter (covB i) := by
    rw [← e1, ← List.filter_append, List.take_append_drop]
  have e3 : ((entB rows).filter (covB i))[cntB rows j i]? = some q := by
    rw [e2, List.append_assoc]
    have e4 : cntB rows j i = (List.filter (covB i) (List.take j (entB rows))).length := rfl
    rw [e4, List.getElem?_append_right (Nat.le_refl _), Nat.sub_self]
    rfl
  rw [ent_cov hO, List.getElem?_map] at e3
  refine ⟨by unfold cntB; rw [e1, List.length_append]; rfl, ?_⟩
  by_cases hl : cntB rows j i < ncl rows i
  · rw [List.getElem?_eq_getElem (by rw [List.length_range]; exact hl), List.getElem_range] at e3
    exact ⟨(Option.some.inj e3).symm, hl⟩
  · rw [List.getElem?_eq_none (by rw [List.length_range]; omega)] at e3
    cases e3
def wB (rows : List (List Str)) (gap least : Int) (i c : Nat) : Int := widthB (cellsB rows c (loB rows c i) (hiB rows c i)) gap least
def rB (rows : List (List Str)) (i c : Nat) : Bool := rightB (cellsB rows c (loB rows c i) (hiB rows c i))
def leftB (rows : List (List Str)) (gap least : Int) (i : Nat) : Nat → Int
  | 0 => 0
  | c + 1 => leftB rows gap least i c + wB rows gap least i c
def leftsB (rows : List (List Str)) (gap least : Int) (i n : Nat) : List Int := (List.range (n + 1)).map (leftB rows gap least i)
theorem lefts_snoc (rows : List (List Str)) (gap least : Int) (i n : Nat) : leftsB rows gap least i (n + 1) = leftsB rows gap least i n ++ [leftB rows gap least i n + wB rows gap least i n] := by
  unfold leftsB
  rw [List.range_succ (n := n + 1), List.map_append]
  rfl
theorem lefts_len (rows : List (List Str)) (gap least : Int) (i n : Nat) : (leftsB rows gap least i n).length = n + 1 := by
  unfold leftsB
  rw [List.length_map, List.length_range]
theorem lefts_get {rows : List (List Str)} {gap least : Int} {i n c : Nat} (h : c ≤ n) : (leftsB rows gap least i n)[c]? = some (leftB rows gap least i c) := by
  unfold leftsB
  rw [List.getElem?_map, List.getElem?_range (by omega)]
  rfl
end TG
namespace TG
open PySem L2 Gx
section
variable {P : Program} {w : World} {K : PySem.W.Frag} {mg : Str → Option Value} {base : Heap} {cs : List (Addr × Addr)}
end
end TG
namespace TG
open PySem L2 Gx
/-- the list at l holds what is told of the first n closed cells of row i -/
def CellsAt (H : Hp) (rows : List (List Str)) (gap least : Int) (i n : Nat) (l : Addr) : Prop :=
  ∃ ts : List Addr, H l = some (.lst (ts.map V.ref)) ∧ ts.length = n ∧ ∀ (c : Nat) (t : Addr), ts[c]? = some t → H t = some (.tup [.int (wB rows gap least i c), .bl (rB rows i c)])
theorem CellsAt.ext {H H' : Hp} {rows : List (List Str)} {gap least : Int} {i n : Nat} {l : Addr} (x : CellsAt H rows gap least i n l) (e : LamX.ExtN H H') : CellsAt H' rows gap least i n l :=
  let ⟨ts, h1, h2, h3⟩ := x
  ⟨ts, e _ _ h1 (by intro ps z; cases z), h2, fun c t h => e _ _ (h3 c t h) (by intro ps z; cases z)⟩
theorem CellsAt.upd {H : Hp} {rows : List (List Str)} {gap least : Int} {i n : Nat} {l p : Addr} {xs : List V} {o : HO} (x : CellsAt H rows gap least i n l) (hp : H p = some (.lst xs)) (ne : l ≠ p) : CellsAt (upd H p o) rows gap least i n l :=
  let ⟨ts, h1, h2, h3⟩ := x
  ⟨ts, by rw [upd_ne ne]; exact h1, h2, fun c t h => by rw [upd_ne (ne_of (h3 c t h) hp (by intro z; cases z))]; exact h3 c t h⟩
theorem ent_le {rows : List (List Str)} {j : Nat} {q : Nat × Nat × Nat} (h : (entB rows)[j]? = some q) : q.2.1 < q.2.2 ∧ q.2.2 ≤ rows.length := by
  obtain ⟨c, _, h2⟩ := List.mem_flatMap.mp (show q ∈ (List.range 5).flatMap (ofCol rows) from List.mem_of_getElem? h)
  obtain ⟨p, h3, rfl⟩ := List.mem_map.mp h2
  obtain ⟨i, hi, e⟩ := List.getElem_of_mem h3
  obtain ⟨f1, f2, _⟩ := run_facts (i := i) (by rw [List.getElem?_eq_getElem hi, e])
  exact ⟨f1, f2⟩
section
variable {P : Program} {w : World} {K : PySem.W.Frag} {mg : Str → Option Value} {base : Heap} {cs : List (Addr × Addr)}
def spCC (K : PySem.W.Frag) (cs : List (Addr × Addr)) : Sp := fun vs H Q _ => ∃ (a st : Addr) (as : List Addr) (rows : List (List Str)) (gap least : Int), vs = [.ref a, .ref st] ∧ Tabs cs H ∧ PageAt K H a as rows ∧ PgOk rows ∧ StyleAt K H st gap least ∧
  ∀ (r : Addr) (ls : List Addr) (H' : Hp), Ex cs H H' → H r = none → (∀ l ∈ ls, H l = none) → H' r = some (.lst (ls.map V.ref)) → ls.length = rows.length → (∀ (i : Nat) (l : Addr), ls[i]? = some l → CellsAt H' rows gap least i (ncl rows i) l) → Q (.ref r) H'
abbrev nmCC : List Str := ["page", "style", "found", "rows", "column", "begin", "end", "width", "right", "holders", "number", "row"]
theorem sc_cc : FnScope nmCC ["page", "style"] (defScope s_closed_cells) := ⟨rfl, rfl, rfl, by decide +kernel, rfl, by decide +kernel, by decide +kernel⟩
theorem ok_cc {f g : Addr} {fd fdg : FuncData} (T : Txt mg) (F : Fun K "closed_cells" "closed_cells" s_closed_cells f fd)
    (G : FnOk P w K mg base CX0 12 g fdg ["page", "style"] (spStr K cs)) (kp : PySem.W.keepIn K (.ref g) = true) (bd : Binds K fdg ["page", "style"] []) (mgg : mg "stretches" = some (.ref g)) : FnOk P w K mg base CX0 13 f fd ["page", "style"] (spCC K cs) := by
  refine F.ok sc_cc (fun vs H Q E h => ?_) (fun cdv A outer s H vs Q E hr h => ?_)
  · obtain ⟨a, st, as, rows, gap, least, rfl, _⟩ := h
    rfl
  · obtain ⟨a, st, as, rows, gap, least, rfl, hT, hP, hO, hS, k⟩ := h
    have nd := sc_cc.nd
    refine ⟨_, pss_cons (ps_set (i := 2) nd rfl (.inl rfl) (pe_call G hr (by rfl) mgg kp bd .nil pass0 (pa_cons (pv 0) (pa_cons (pv 1) pa_nil))))
      (pss_cons (ps_setLc (i := 3) (own := [("row", 11)]) (g := gName 11) rfl nd rfl rfl (sw_true rfl rfl rfl (by decide +kernel)) (pi_list (pv 0)) (blkOk_by (own := [("row", 11)]) (N := nmCC) (sc := defScope s_closed_cells) (by decide +kernel))
        (fun _ _ _ _ _ => pg_name (i := 11) nd rfl (Or.inl rfl)) (fun _ _ _ _ _ => pts_nil) (fun _ _ _ _ _ => pe_lst pa_nil))
      (pss_cons (ps_for PassesOwn.never rfl (pi_list (pv 2)) (pg_tup rfl (pgs_cons (pg_name (i := 4) nd rfl (.inl rfl)) (pgs_cons (pg_name (i := 5) nd rfl (.inl rfl)) (pgs_cons (pg_name (i := 6) nd rfl (.inl rfl)) (pgs_cons (pg_name (i := 7) nd rfl (.inl rfl)) (pgs_cons (pg_name (i := 8) nd rfl (.inl rfl)) (pgs_cons (pg_name (i := 9) nd rfl (.inl rfl)) pgs_nil)))))))
        (pss_one (ps_for PassesOwn.never rfl (pi_range2 (by rfl) T.range (pa_cons (pv 5) (pa_cons (pv 6) pa_nil))) (pg_name (i := 10) nd rfl (.inl rfl))
          (pss_one (ps_expr (pe_bm PySem.F.plainAttrs_list PySem.F.slot_list_append PySem.F.type_list_append mt_append (pe_ix ix_list (pv 3) (pv 10) (fun _ _ => rfl)) (pa_cons (pe_tup (pa_cons (pv 7) (pa_cons (pv 8) pa_nil))) pa_nil)))))))
      (pss_one (ps_ret (pv 3))))), ?_⟩
    have ll := hO.len
    have szl : (1000 : Nat) < sizeLine := by decide
    have las : (as.map V.ref).length = rows.length := by rw [List.length_map, hP.len]
    refine ⟨_, rfl, _, rfl, a, st, as, rows, gap, least, rfl, hT, hP, hO, hS, fun r ts hs H1 x1 nr nts nhs hr1 ds => ?_⟩
    have hT1 := x1.tab
    refine ⟨_, rfl, a, rfl, ⟨_, x1.sqL hP.lst⟩, fun D nD => lc_list (xs := as.map V.ref) (fun i H' => ∃ ls : List Addr, Ex cs H1 H' ∧ H' D = some (.lst (ls.map V.ref)) ∧ ls.length = i ∧ ls.Nodup ∧ ∀ l ∈ ls, H1 l = none ∧ l ≠ D ∧ H' l = some (.lst []))
      ⟨[], Ex.laid hT1 nD, upd_same, rfl, List.nodup_nil, fun l h => by simp at h⟩ (fun i H' _ ⟨ls, x, _⟩ => x.sqL (x1.sqL hP.lst)) ?_ ?_⟩
    · rintro i v H2 hv ⟨ls, x2, hD, hl, hn, hf⟩
      have hil : i < as.length := by
        have := (List.getElem?_eq_some_iff.mp hv).1
        rw [List.length_map] at this
        exact this
      refine ⟨rfl, small0, fun p np => ⟨_, by rw [upd_ne (ne_of_none hD np)]; exact hD, by rw [List.length_map, hl]; have := hP.len; omega, ls ++ [p], ?_, by rw [upd_same, List.map_append]; rfl, by rw [List.length_append, hl]; rfl, ?_, fun l h => ?_⟩⟩
      · exact ex_new hT1 (x2.trans (Ex.laid x2.tab np)) nD
      · refine List.nodup_append.mpr ⟨hn, by simp, fun u hu v hv e => ?_⟩
        rw [List.mem_singleton.mp hv] at e
        have := (hf u hu).2.2
        rw [e, np] at this
        cases this
      · have pD : p ≠ D := fun z => by rw [z, hD] at np; cases np
        rcases List.mem_append.mp h with z | z
        · obtain ⟨h1, h2, h3⟩ := hf l z
          exact ⟨h1, h2, by rw [upd_ne h2, upd_ne (ne_of_none h3 np)]; exact h3⟩
        · rw [List.mem_singleton.mp z]
          exact ⟨x2.old _ np, pD, by rw [upd_ne pD, upd_same]⟩
    · rintro H2 ⟨ls, x2, hD, hl, hn, hf⟩
      rw [las] at hl
      have hnd : ∀ (i j : Nat) (l m : Addr), ls[i]? = some l → ls[j]? = some m → i ≠ j → l ≠ m := fun i j l m h1 h2 h3 e => by
        subst e
        exact h3 (nd_ix hn h1 h2)
      refine ⟨_, rfl, r, rfl, ⟨_, SqL.of (x2.lst hr1)⟩, for_list (xs := ts.map V.ref) (fun j σ H' => ∃ c4 c5 c6 c7 c8 c9 c10 : Option V, σ = [some (.ref a), some (.ref st), some (.ref r), some (.ref D), c4, c5, c6, c7, c8, c9, c10, none] ∧ Ex cs H1 H' ∧ H' D = some (.lst (ls.map V.ref)) ∧ ∀ (i : Nat) (l : Addr), ls[i]? = some l → CellsAt H' rows gap least i (cntB rows j i) l)
        ⟨_, _, _, _, _, _, _, rfl, x2, hD, fun i l h => ⟨[], (hf l (List.mem_of_getElem? h)).2.2, rfl, fun c t h => by simp at h⟩⟩ (fun j σ H' _ ⟨_, _, _, _, _, _, _, _, x, _⟩ => SqL.of (x.lst hr1)) ?_ ?_⟩
      · rintro j v σ H3 hv ⟨c4, c5, c6, c7, c8, c9, c10, rfl, x3, hD3, hC⟩
        obtain ⟨t, ht, rfl⟩ := get_map hv
        have hjt := (List.getElem?_eq_some_iff.mp ht).1
        obtain ⟨q, hq⟩ := getP (xs := entB rows) (i := j) (by rw [← ds.len]; exact hjt)
        obtain ⟨hh, hhh⟩ := getP (xs := hs) (i := j) (by rw [ds.len2, ← ds.len]; exact hjt)
        have dt := x3.tup (ds.at_ j t hh q ht hhh hq).1
        refine ⟨t, _, rfl, .inl (.inl dt), rfl, _, _, rfl, _, _, rfl, _, _, rfl, _, _, rfl, _, _, rfl, _, _, rfl, rfl, ?_⟩
        refine ⟨_, rfl, _, rfl, (q.2.1 : Int), (q.2.2 : Int), rfl, ?_⟩
        obtain ⟨q1, q2⟩ := ent_le hq
        refine ⟨by omega, for_range (lo := (q.2.1 : Int)) (n := ((q.2.2 : Int) - (q.2.1 : Int)).toNat) (fun k σ H' => ∃ c10 : Option V, σ = [some (.ref a), some (.ref st), some (.ref r), some (.ref D), some (.int (q.1 : Nat)), some (.int (q.2.1 : Nat)), some (.int (q.2.2 : Nat)), some (.int (widthB (cellsB rows q.1 q.2.1 q.2.2) gap least)), some (.bl (rightB (cellsB rows q.1 q.2.1 q.2.2))), some (.ref hh), c10, none] ∧ Ex cs H1 H' ∧ H' D = some (.lst (ls.map V.ref)) ∧
          ∀ (i : Nat) (l : Addr), ls[i]? = some l → CellsAt H' rows gap least i (cntB rows j i + if q.2.1 ≤ i ∧ i < q.2.1 + k then 1 else 0) l)
          ⟨_, rfl, x3, hD3, fun i l h => by rw [if_neg (by omega)]; exact hC i l h⟩ ?_ ?_⟩
        · rintro k σ H4 hk ⟨c10, rfl, x4, hD4, hC4⟩
          have hx : q.2.1 + k < q.2.2 := by omega
          obtain ⟨l, hl1⟩ := getP (xs := ls) (i := q.2.1 + k) (by omega)
          obtain ⟨hln, hlD, _⟩ := hf l (List.mem_of_getElem? hl1)
          have hcl := hC4 _ l hl1
          rw [if_neg (by omega), Nat.add_zero] at hcl
          obtain ⟨us, u1, u2, u3⟩ := hcl
          have hcov : covB (q.2.1 + k) q = true := decide_eq_true ⟨by omega, hx⟩
          obtain ⟨v1, v2, v3⟩ := cnt_yes hO hq hcov
          have v4 := ncl_le hO (q.2.1 + k)
          refine ⟨_, rfl, _, rfl, D, _, ((q.2.1 + k : Nat) : Int), .ref l, rfl, rfl, SqL.of hD4, atI_nat (by rw [List.getElem?_map, hl1]; rfl), .inl ⟨rfl, _, SqL.of u1⟩, _, rfl, _, rfl, line10 (by show 2 ≤ 1000; decide), fun t0 nt0 => ⟨l, us.map V.ref, .ref t0, rfl, rfl, by rw [upd_ne (ne_of_none u1 nt0)]; exact u1, by rw [List.length_map, u2]; omega, ?_⟩⟩
          have x5 := Ex.laid (o := .tup [.int (widthB (cellsB rows q.1 q.2.1 q.2.2) gap least), .bl (rightB (cellsB rows q.1 q.2.1 q.2.2))]) x4.tab nt0
          have lt0 : l ≠ t0 := ne_of_none u1 nt0
          have u1' := x5.lst u1
          refine ⟨_, rfl, ex_new hT1 (x4.trans x5) hln, by rw [upd_ne hlD.symm]; exact x5.lst hD4, fun i m h => ?_⟩
          by_cases e : i = q.2.1 + k
          · subst e
            rw [hl1] at h
            cases h
            rw [if_pos (by omega)]
            refine ⟨us ++ [t0], by rw [upd_same, List.map_append]; rfl, by rw [List.length_append, u2]; rfl, fun c t h => ?_⟩
            by_cases hc : c < us.length
            · rw [List.getElem?_append_left hc] at h
              have := x5.tup (u3 c t h)
              rw [upd_ne (ne_of this u1' (by intro z; cases z))]
              exact this
            · have hl := (List.getElem?_eq_some_iff.mp h).1
              rw [List.length_append, List.length_singleton] at hl
              have ec : c = us.length := by omega
              subst ec
              rw [List.getElem?_append_right (Nat.le_refl _), Nat.sub_self] at h
              cases h
              rw [upd_ne lt0.symm, upd_same, u2]
              have e1 : q.1 = cntB rows j (q.2.1 + k) := congrArg (fun z : Nat × Nat × Nat => z.1) v2
              have e2 : q.2.1 = loB rows (cntB rows j (q.2.1 + k)) (q.2.1 + k) := congrArg (fun z : Nat × Nat × Nat => z.2.1) v2
              have e3 : q.2.2 = hiB rows (cntB rows j (q.2.1 + k)) (q.2.1 + k) := congrArg (fun z : Nat × Nat × Nat => z.2.2) v2
              unfold wB rB
              rw [← e2, ← e3, ← e1]
          · have hne := hnd _ _ _ _ h hl1 e
            have hm := (hC4 i m h).ext x5.ext
            have ee : (if q.2.1 ≤ i ∧ i < q.2.1 + (k + 1) then 1 else 0) = (if q.2.1 ≤ i ∧ i < q.2.1 + k then 1 else 0) := by
              by_cases z : q.2.1 ≤ i ∧ i < q.2.1 + k
              · rw [if_pos z, if_pos (by omega)]
              · rw [if_neg z, if_neg (by omega)]
            rw [ee]
            exact hm.upd u1' hne
        · rintro σ H4 ⟨c10, rfl, x4, hD4, hC4⟩
          refine ⟨_, _, _, _, _, _, _, rfl, x4, hD4, fun i l h => ?_⟩
          have := hC4 i l h
          by_cases z : q.2.1 ≤ i ∧ i < q.2.2
          · rw [if_pos (by omega)] at this
            rw [(cnt_yes hO hq (decide_eq_true z)).1]
            exact this
          · rw [if_neg (by omega)] at this
            rw [cnt_no hq (decide_eq_false z)]
            exact this
      · rintro σ H3 ⟨c4, c5, c6, c7, c8, c9, c10, rfl, x3, hD3, hC⟩
        refine ⟨_, rfl, k D ls H3 (x1.trans x3) (x1.old _ nD) (fun l h => x1.old _ (hf l h).1) hD3 hl fun i l h => ?_⟩
        have := hC i l h
        rw [List.length_map, ds.len, cnt_all hO] at this
        exact this
end
end TG
namespace TG
open PySem L2 Gx
theorem at_last {α : Type} {xs : List α} {x : α} : atI (xs ++ [x]) (-1) = some x := by
  unfold atI ixN
  rw [if_neg (by omega), List.length_append, List.length_singleton, if_pos (by omega)]
  show (xs ++ [x])[((-1 : Int) + ((xs.length + 1 : Nat) : Int)).toNat]? = some x
  rw [show ((-1 : Int) + ((xs.length + 1 : Nat) : Int)).toNat = xs.length by omega, List.getElem?_append_right (Nat.le_refl _), Nat.sub_self]
  rfl
theorem lefts_last (rows : List (List Str)) (gap least : Int) (i : Nat) : ∀ n, ∃ xs, leftsB rows gap least i n = xs ++ [leftB rows gap least i n]
  | 0 => ⟨[], rfl⟩
  | n + 1 => ⟨leftsB rows gap least i n, lefts_snoc rows gap least i n⟩
theorem lefts_at (rows : List (List Str)) (gap least : Int) (i n : Nat) : atI ((leftsB rows gap least i n).map V.int) (-1) = some (V.int (leftB rows gap least i n)) := by
  obtain ⟨xs, e⟩ := lefts_last rows gap least i n
  rw [e, List.map_append]
  exact at_last
/-- the list at r holds lists of numbers, f tells them -/
structure ToldAt (H : Hp) (r : Addr) (es : List Addr) (f : Nat → List Int) (n : Nat) : Prop where
  lst : H r = some (.lst (es.map V.ref))
  len : es.length = n
  nd : es.Nodup
  at_ : ∀ (i : Nat) (e : Addr), es[i]? = some e → H e = some (.lst ((f i).map V.int))
theorem ToldAt.ext {H H' : Hp} {r : Addr} {es : List Addr} {f : Nat → List Int} {n : Nat} (t : ToldAt H r es f n) (x : LamX.ExtN H H') : ToldAt H' r es f n :=
  ⟨x _ _ t.lst (by intro ps z; cases z), t.len, t.nd, fun i e h => x _ _ (t.at_ i e h) (by intro ps z; cases z)⟩
theorem tabs_ext {cs : List (Addr × Addr)} {H H' : Hp} (t : Tabs cs H) (x : Same H H') : Tabs cs H' := fun p hp => let ⟨ps, h1, h2⟩ := t p hp; ⟨ps, x _ _ h1, h2⟩
theorem same_ext {H H' : Hp} (x : Same H H') : LamX.ExtN H H' := fun b o e _ => x b o e
theorem ex_same {cs : List (Addr × Addr)} {H H' : Hp} (t : Tabs cs H) (x : Same H H') : Ex cs H H' := ⟨same_ext x, tabs_ext t x, fun _ n => same_old x n, fun b o e _ => x b o e⟩
theorem ToldAt.add {H H' : Hp} {r : Addr} {es : List Addr} {f : Nat → List Int} {n : Nat} {e : Addr} (t : ToldAt H r es f n) (x : LamX.ExtN H H') (he : H e = none) (h' : H' e = some (.lst ((f n).map V.int))) (hr : r ∉ es) :
    ToldAt (upd H' r (.lst (es.map V.ref ++ [.ref e]))) r (es ++ [e]) f (n + 1) := by
  refine ⟨by rw [upd_same, List.map_append]; rfl, by rw [List.length_append, t.len]; rfl, ?_, fun i u h => ?_⟩
  · refine List.nodup_append.mpr ⟨t.nd, by simp, fun u hu v hv q => ?_⟩
    rw [List.mem_singleton.mp hv] at q
    obtain ⟨i, hi, e1⟩ := List.getElem_of_mem hu
    have := t.at_ i u (by rw [List.getElem?_eq_getElem hi, e1])
    rw [q, he] at this
    cases this
  · have re : e ≠ r := fun z => by rw [z, t.lst] at he; cases he
    by_cases hi : i < es.length
    · rw [List.getElem?_append_left hi] at h
      rw [upd_ne (fun z => hr (by rw [← z]; exact List.mem_of_getElem? h))]
      exact x _ _ (t.at_ i u h) (by intro ps z; cases z)
    · have hl := (List.getElem?_eq_some_iff.mp h).1
      rw [List.length_append, List.length_singleton] at hl
      have e1 : i = es.length := by omega
      subst e1
      rw [List.getElem?_append_right (Nat.le_refl _), Nat.sub_self] at h
      cases h
      rw [upd_ne re, h', t.len]
section
variable {P : Program} {w : World} {K : PySem.W.Frag} {mg : Str → Option Value} {base : Heap} {cs : List (Addr × Addr)}
def spLE : Sp := fun vs H Q _ => ∃ (l : Addr) (rows : List (List Str)) (gap least : Int) (i n : Nat), vs = [.ref l] ∧ CellsAt H rows gap least i n l ∧ n ≤ 5 ∧
  ∀ (p : Addr) (H' : Hp), Same H H' → H p = none → H' p = some (.lst ((leftsB rows gap least i n).map V.int)) → Q (.ref p) H'
abbrev nmLE : List Str := ["closed", "ends", "width", "right"]
theorem sc_le : FnScope nmLE ["closed"] (defScope s_left_ends) := ⟨rfl, rfl, rfl, by decide +kernel, rfl, by decide +kernel, by decide +kernel⟩
theorem ok_le {f : Addr} {fd : FuncData} (F : Fun K "left_ends" "left_ends" s_left_ends f fd) : FnOk P w K mg base CX0 1 f fd ["closed"] spLE := by
  refine F.ok sc_le (fun vs H Q E h => ?_) (fun cdv A outer s H vs Q E hr h => ?_)
  · obtain ⟨l, rows, gap, least, i, n, rfl, _⟩ := h
    rfl
  · obtain ⟨l, rows, gap, least, i, n, rfl, ⟨ts, h1, h2, h3⟩, n5, k⟩ := h
    have nd := sc_le.nd
    refine ⟨_, pss_cons (ps_set (i := 1) nd rfl (.inl rfl) (pe_lst (pa_cons pe_int pa_nil)))
      (pss_cons (ps_for PassesOwn.never rfl (pi_list (pv 0)) (pg_tup rfl (pgs_cons (pg_name (i := 2) nd rfl (.inl rfl)) (pgs_cons (pg_name (i := 3) nd rfl (.inl rfl)) pgs_nil)))
        (pss_one (ps_expr (pe_bm PySem.F.plainAttrs_list PySem.F.slot_list_append PySem.F.type_list_append mt_append (pv 1) (pa_cons (pe_op op_add (pe_ix ix_list (pv 1) (pe_un un_neg pe_int) (fun _ _ => rfl)) (pv 2)) pa_nil)))))
      (pss_one (ps_ret (pv 1)))), ?_⟩
    have szl : (1000 : Nat) < sizeLine := by decide
    refine ⟨line10 (by show 1 ≤ 1000; decide), fun p np => ⟨_, rfl, l, rfl, ⟨_, SqL.of (by rw [upd_ne (ne_of_none h1 np)]; exact h1)⟩, for_list (xs := ts.map V.ref) (fun j σ H' => ∃ c2 c3 : Option V, σ = [some (.ref l), some (.ref p), c2, c3] ∧ Same H H' ∧ H' p = some (.lst ((leftsB rows gap least i j).map V.int)))
      ⟨_, _, rfl, same_new np, upd_same⟩ (fun j σ H' _ ⟨_, _, _, x, _⟩ => SqL.of (x _ _ h1)) ?_ ?_⟩⟩
    · rintro j v σ H1 hv ⟨c2, c3, rfl, x1, hp⟩
      obtain ⟨t, ht, rfl⟩ := get_map hv
      have hj := (List.getElem?_eq_some_iff.mp ht).1
      refine ⟨t, _, rfl, .inl (.inl (x1 _ _ (h3 j t ht))), rfl, _, _, rfl, _, _, rfl, rfl, ?_⟩
      refine ⟨_, rfl, .inl ⟨rfl, _, SqL.of hp⟩, _, rfl, 1, rfl, p, _, -1, _, rfl, rfl, SqL.of hp, lefts_at .., _, rfl, _, _, rfl, rfl, p, _, _, rfl, rfl, hp, by rw [List.length_map, lefts_len]; omega, ⟨_, _, rfl, same_upd x1 np, ?_⟩⟩
      rw [upd_same, lefts_snoc, List.map_append]
      rfl
    · rintro σ H1 ⟨c2, c3, rfl, x1, hp⟩
      rw [List.length_map, h2] at hp
      exact ⟨_, rfl, k p H1 x1 np hp⟩
/-- a list of lists of numbers, a row each -/
def spTold (K : PySem.W.Frag) (cs : List (Addr × Addr)) (f : List (List Str) → Int → Int → Nat → List Int) : Sp := fun vs H Q _ => ∃ (a st : Addr) (as : List Addr) (rows : List (List Str)) (gap least : Int), vs = [.ref a, .ref st] ∧ Tabs cs H ∧ PageAt K H a as rows ∧ PgOk rows ∧ StyleAt K H st gap least ∧
  ∀ (r : Addr) (es : List Addr) (H' : Hp), Ex cs H H' → H r = none → (∀ e ∈ es, H e = none ∧ e ≠ r) → ToldAt H' r es (f rows gap least) rows.length → Q (.ref r) H'
end
end TG
namespace TG
open PySem L2 Gx
def lenC (rows : List (List Str)) (i c : Nat) : Int := (((rows.getD i []).getD c nilS).length : Nat)
/-- the begins of row i when the first j closed cells have been looked at -/
def begC (rows : List (List Str)) (gap least : Int) (i j c : Nat) : Int := if c < j ∧ rB rows i c = true then leftB rows gap least i (c + 1) - gap - lenC rows i c else leftB rows gap least i c
def begsTo (rows : List (List Str)) (gap least : Int) (i j : Nat) : List Int := (List.range (ncl rows i + 1)).map (begC rows gap least i j)
def begsR (rows : List (List Str)) (gap least : Int) (i : Nat) : List Int := begsTo rows gap least i (ncl rows i)
theorem begs_zero (rows : List (List Str)) (gap least : Int) (i : Nat) : begsTo rows gap least i 0 = leftsB rows gap least i (ncl rows i) := by
  unfold begsTo leftsB
  refine List.map_congr_left fun c _ => ?_
  unfold begC
  rw [if_neg (by omega)]
theorem begs_len (rows : List (List Str)) (gap least : Int) (i j : Nat) : (begsTo rows gap least i j).length = ncl rows i + 1 := by
  unfold begsTo
  rw [List.length_map, List.length_range]
theorem begs_no {rows : List (List Str)} {gap least : Int} {i j : Nat} (h : rB rows i j = false) : begsTo rows gap least i (j + 1) = begsTo rows gap least i j := by
  unfold begsTo
  refine List.map_congr_left fun c _ => ?_
  unfold begC
  by_cases e : c = j
  · subst e
    rw [if_neg (fun z => by rw [h] at z; cases z.2), if_neg (by omega)]
  · by_cases q : c < j ∧ rB rows i c = true
    · rw [if_pos q, if_pos ⟨by omega, q.2⟩]
    · rw [if_neg q, if_neg (fun z => q ⟨by omega, z.2⟩)]
theorem begs_yes {rows : List (List Str)} {gap least : Int} {i j : Nat} (hj : j < ncl rows i) (h : rB rows i j = true) : (begsTo rows gap least i j).set j (leftB rows gap least i (j + 1) - gap - lenC rows i j) = begsTo rows gap least i (j + 1) := by
  apply List.ext_getElem?
  intro c
  rw [List.getElem?_set]
  have e1 : ∀ j, (begsTo rows gap least i j)[c]? = if c < ncl rows i + 1 then some (begC rows gap least i j c) else none := fun j => by
    unfold begsTo
    rw [List.getElem?_map]
    by_cases q : c < ncl rows i + 1
    · rw [List.getElem?_range q, if_pos q]; rfl
    · rw [List.getElem?_eq_none (by rw [List.length_range]; omega), if_neg q]; rfl
  by_cases e : j = c
  · subst e
    rw [if_pos rfl, if_pos (by rw [begs_len]; omega), e1, if_pos (by omega)]
    unfold begC
    rw [if_pos ⟨Nat.lt_succ_self _, h⟩]
  · rw [if_neg e, e1, e1]
    have : begC rows gap least i (j + 1) c = begC rows gap least i j c := by
      unfold begC
      by_cases q : c < j ∧ rB rows i c = true
      · rw [if_pos q, if_pos ⟨by omega, q.2⟩]
      · rw [if_neg q, if_neg (fun z => q ⟨by omega, z.2⟩)]
    rw [this]
theorem set_map {α β : Type} {f : α → β} {xs : List α} {i : Nat} {x : α} : (xs.map f).set i (f x) = (xs.set i x).map f := by
  rw [List.map_set]
section
variable {P : Program} {w : World} {K : PySem.W.Frag} {mg : Str → Option Value} {base : Heap} {cs : List (Addr × Addr)}
def spBO (K : PySem.W.Frag) : Sp := fun vs H Q _ => ∃ (a l : Addr) (rows : List (List Str)) (gap least : Int) (i : Nat) (r : List Str), vs = [.ref a, .ref l, .int gap] ∧ rows[i]? = some r ∧ PgOk rows ∧ SqT K H a (sV r) ∧ CellsAt H rows gap least i (ncl rows i) l ∧
  ∀ (p : Addr) (H' : Hp), Same H H' → H p = none → H' p = some (.lst ((begsR rows gap least i).map V.int)) → Q (.ref p) H'
abbrev nmBO : List Str := ["row", "closed", "gap", "ends", "begins", "number", "width", "right"]
theorem sc_bo : FnScope nmBO ["row", "closed", "gap"] (defScope s_begins_of) := ⟨rfl, rfl, rfl, by decide +kernel, rfl, by decide +kernel, by decide +kernel⟩
theorem ok_bo {f g : Addr} {fd fdg : FuncData} (T : Txt mg) (F : Fun K "begins_of" "begins_of" s_begins_of f fd)
    (G : FnOk P w K mg base CX0 1 g fdg ["closed"] spLE) (kp : PySem.W.keepIn K (.ref g) = true) (bd : Binds K fdg ["closed"] []) (mgg : mg "left_ends" = some (.ref g)) : FnOk P w K mg base CX0 2 f fd ["row", "closed", "gap"] (spBO K) := by
  refine F.ok sc_bo (fun vs H Q E h => ?_) (fun cdv A outer s H vs Q E hr h => ?_)
  · obtain ⟨a, l, rows, gap, least, i, r, rfl, _⟩ := h
    rfl
  · obtain ⟨a, l, rows, gap, least, i, r, rfl, hr2, hO, hA, hC, k⟩ := h
    have nd := sc_bo.nd
    refine ⟨_, pss_cons (ps_set (i := 3) nd rfl (.inl rfl) (pe_call G hr (by rfl) mgg kp bd .nil pass0 (pa_cons (pv 1) pa_nil)))
      (pss_cons (ps_set (i := 4) nd rfl (.inl rfl) (pe_callTy call_list_of (by rfl) T.list (by decide +kernel) (pa_cons (pv 3) pa_nil)))
      (pss_cons (ps_for PassesOwn.never rfl (pi_enum (by rfl) T.enum (pa_cons (pv 1) pa_nil)) (pg_tup rfl (pgs_cons (pg_name (i := 5) nd rfl (.inl rfl)) (pgs_cons (pg_tup rfl (pgs_cons (pg_name (i := 6) nd rfl (.inl rfl)) (pgs_cons (pg_name (i := 7) nd rfl (.inl rfl)) pgs_nil))) pgs_nil)))
        (pss_one (ps_if (pt_val (pv 7)) (pss_one (ps_asg (pe_op op_sub (pe_op op_sub (pe_ix ix_list (pv 3) (pe_op op_add (pv 5) pe_int) (fun _ _ => rfl)) (pv 2)) (pe_callB call_len_str (by rfl) T.len PySem.boot_len (pa_cons (pe_ix ix_tup (pv 0) (pv 5) (fun _ _ => rfl)) pa_nil))) (pg_sub (pv 4) (pv 5) set_list))) pss_nil)))
      (pss_one (ps_ret (pv 4))))), ?_⟩
    have szl : (1000 : Nat) < sizeLine := by decide
    have n5 := ncl_le hO i
    have hrO := hO.rows r (List.mem_of_getElem? hr2)
    have hnc : ncl rows i = r.length - 1 := by unfold ncl; rw [hr2]
    refine ⟨_, rfl, l, rows, gap, least, i, ncl rows i, rfl, hC, n5, fun e H1 x1 ne he => ⟨_, rfl, e, _, rfl, .inl (SqL.of he), fun b nb => ?_⟩⟩
    obtain ⟨ts, h1, h2, h3⟩ := hC
    have x2 : Same H (upd H1 b (.lst ((leftsB rows gap least i (ncl rows i)).map V.int))) := same_trans x1 (same_new nb)
    have eb : e ≠ b := ne_of_none he nb
    have nb0 := same_old x1 nb
    refine ⟨_, rfl, l, _, rfl, SqL.of (x2 _ _ h1), for_it (walk_enum (xs := ts.map V.ref)) (fun j σ H' => ∃ c5 c6 c7 : Option V, σ = [some (.ref a), some (.ref l), some (.int gap), some (.ref e), some (.ref b), c5, c6, c7] ∧ Same H H' ∧ H' e = some (.lst ((leftsB rows gap least i (ncl rows i)).map V.int)) ∧ H' b = some (.lst ((begsTo rows gap least i j).map V.int)))
      ⟨_, _, _, rfl, x2, by rw [upd_ne eb]; exact he, by rw [upd_same, begs_zero]⟩ (fun j σ H' _ ⟨_, _, _, _, x, _⟩ => SqL.of (x _ _ h1)) ?_ ?_⟩
    · rintro j x σ H3 H4 hi ⟨c5, c6, c7, rfl, x3, he3, hb3⟩ ⟨Tp, v, u, rfl, hn, rfl, hv, hu⟩
      cases hv
      obtain ⟨t, ht, rfl⟩ := get_map hu
      have hj := (List.getElem?_eq_some_iff.mp ht).1
      have x4 : Same H3 (upd H3 Tp (.tup [.int (j : Nat), .ref t])) := same_new hn
      generalize hH4 : upd H3 Tp (.tup [.int (j : Nat), .ref t]) = H4 at x4 ⊢
      have hTp : H4 Tp = some (.tup [.int (j : Nat), .ref t]) := by rw [← hH4, upd_same]
      have x34 := same_trans x3 x4
      have he4 := x4 _ _ he3
      have hb4 := x4 _ _ hb3
      refine ⟨Tp, _, rfl, .inl (.inl hTp), rfl, _, _, rfl, _, _, rfl, t, _, rfl, .inl (.inl (x34 _ _ (h3 j t ht))), rfl, _, _, rfl, _, _, rfl, rfl, rfl, ?_⟩
      refine ⟨_, rfl, rB rows i j, rfl, ?_⟩
      cases hrb : rB rows i j with
      | false => exact iteF ⟨_, _, _, rfl, x34, he4, by rw [begs_no hrb]; exact hb4⟩
      | true =>
        have hjr : j < r.length := by omega
        have ec : lenC rows i j = (((r[j]'hjr).length : Nat) : Int) := by
          unfold lenC
          rw [show rows.getD i [] = r by rw [List.getD_eq_getElem?_getD, hr2]; rfl, List.getD_eq_getElem?_getD, List.getElem?_eq_getElem hjr]
          rfl
        have zl := (hrO.cells _ (List.getElem_mem hjr)).len
        refine iteT ⟨_, rfl, _, rfl, j, 1, rfl, rfl, e, _, ((j + 1 : Nat) : Int), _, rfl, rfl, SqL.of he4, atI_nat (by rw [List.getElem?_map, lefts_get (by omega)]; rfl), _, rfl, _, _, rfl, rfl, _, rfl, _, rfl, a, _, j, _, rfl, rfl, same_sqT x34 hA, atI_nat (by rw [List.getElem?_map, List.getElem?_eq_getElem hjr]; rfl), _, rfl, line10 (by omega), _, _, rfl, rfl, _, rfl, _, rfl, b, _, j, j, rfl, rfl, hb4, ?_, ⟨_, _, _, rfl, same_upd x34 nb0, by rw [upd_ne eb]; exact he4, ?_⟩⟩
        · rw [List.length_map, begs_len]
          unfold ixN
          rw [if_pos (by omega), if_pos (by omega)]
          rfl
        · rw [upd_same, set_map, ← ec, begs_yes (by omega) hrb]
    · rintro σ H3 ⟨c5, c6, c7, rfl, x3, he3, hb3⟩
      rw [List.length_map, h2] at hb3
      exact ⟨_, rfl, k b H3 x3 nb0 hb3⟩
end
end TG
namespace TG
open PySem L2 Gx
section
variable {P : Program} {w : World} {K : PySem.W.Frag} {mg : Str → Option Value} {base : Heap} {cs : List (Addr × Addr)}
abbrev nmLaid : List Str := ["page", "style", "rows", "gap", "row", "closed"]
theorem sc_laid : FnScope nmLaid ["page", "style"] (defScope s_laid) := ⟨rfl, rfl, rfl, by decide +kernel, rfl, by decide +kernel, by decide +kernel⟩
theorem ok_laid {f g g2 : Addr} {fd fdg fd2 : FuncData} (hz : mg "zip" = none) (F : Fun K "laid" "laid" s_laid f fd)
    (G : FnOk P w K mg base CX0 13 g fdg ["page", "style"] (spCC K cs)) (kp : PySem.W.keepIn K (.ref g) = true) (bd : Binds K fdg ["page", "style"] []) (mgg : mg "closed_cells" = some (.ref g))
    (G2 : FnOk P w K mg base CX0 2 g2 fd2 ["row", "closed", "gap"] (spBO K)) (kp2 : PySem.W.keepIn K (.ref g2) = true) (bd2 : Binds K fd2 ["row", "closed", "gap"] []) (mg2 : mg "begins_of" = some (.ref g2)) : FnOk P w K mg base CX0 14 f fd ["page", "style"] (spTold K cs begsR) := by
  refine F.ok sc_laid (fun vs H Q E h => ?_) (fun cdv A outer s H vs Q E hr h => ?_)
  · obtain ⟨a, st, as, rows, gap, least, rfl, _⟩ := h
    rfl
  · obtain ⟨a, st, as, rows, gap, least, rfl, hT, hP, hO, hS, k⟩ := h
    have nd := sc_laid.nd
    have hr2 : Room 2 _ := hr.mono (by decide)
    refine ⟨_, pss_cons (ps_set (i := 2) nd rfl (.inl rfl) (pe_call G hr (by rfl) mgg kp bd .nil pass0 (pa_cons (pv 0) (pa_cons (pv 1) pa_nil))))
      (pss_cons (ps_set (i := 3) nd rfl (.inr rfl) (pe_ix ix_tup (pv 1) pe_int (fun _ _ => rfl)))
      (pss_one (ps_ret (pe_lc (own := [("row", 4), ("closed", 5)]) (g := gTup K 2 (gCons (gName 4) (gCons (gName 5) gNil))) (tt := tYes) rfl nd (pi_zip (by rfl) hz (pa_cons (pv 0) (pa_cons (pv 2) pa_nil))) (blkOk_by (own := [("row", 4), ("closed", 5)]) (N := nmLaid) (sc := defScope s_laid) (by decide +kernel))
        (fun _ _ _ _ _ => pg_tup rfl (pgs_cons (pg_name (i := 4) nd rfl (.inl rfl) (.inr rfl)) (pgs_cons (pg_name (i := 5) nd rfl (.inl rfl) (.inr rfl)) pgs_nil))) (fun _ _ _ _ _ => pts_nil) (fun s1 H1 C1 cl1 fp1 => pe_call G2 hr2 (by rfl) mg2 kp2 bd2 .nil pass0 (pa_cons (pv 4) (pa_cons (pv 5) (pa_cons (pv 3) pa_nil)))))))), ?_⟩
    have ll := hO.len
    have szl : (1000 : Nat) < sizeLine := by decide
    refine ⟨_, rfl, _, rfl, a, st, as, rows, gap, least, rfl, hT, hP, hO, hS, fun r ls H1 x1 nr nls hr1 hll hC => ⟨_, rfl, st, _, 0, .int gap, rfl, rfl, x1.sqT hS.tup, at0, _, rfl, _, rfl, a, r, _, _, rfl, x1.sqL hP.lst, SqL.of hr1, fun D nD => lc_it (walk_zip (xs := as.map V.ref) (ys := ls.map V.ref) (n := rows.length) (by rw [List.length_map, List.length_map, hP.len, hll, Nat.min_self])) (fun i H' => ∃ es : List Addr, Ex cs H1 H' ∧ ToldAt H' D es (begsR rows gap least) i ∧ ∀ e ∈ es, H1 e = none ∧ e ≠ D)
      ⟨[], Ex.laid x1.tab nD, ⟨upd_same, rfl, List.nodup_nil, fun i e h => by simp at h⟩, fun e h => by simp at h⟩ (fun i H' _ ⟨es, x, _⟩ => ⟨x.sqL (x1.sqL hP.lst), SqL.of (x.lst hr1)⟩) ?_ ?_⟩⟩
    · rintro i v H2 H3 hi ⟨es, x2, t2, f2⟩ ⟨Tp, v1, u, rfl, hn, rfl, hv, hu⟩
      obtain ⟨p, hp, rfl⟩ := get_map hv
      obtain ⟨l, hl, rfl⟩ := get_map hu
      obtain ⟨z, hz2⟩ := getP (xs := rows) (i := i) hi
      have x3 := Ex.laid (o := .tup [.ref p, .ref l]) x2.tab hn
      generalize hH : upd H2 Tp (.tup [.ref p, .ref l]) = H3 at x3 ⊢
      have hTp : H3 Tp = some (.tup [.ref p, .ref l]) := by rw [← hH, upd_same]
      have x23 := x2.trans x3
      refine ⟨Tp, _, rfl, .inl (.inl hTp), rfl, _, _, rfl, _, _, rfl, rfl, rfl, _, rfl, _, rfl, _, rfl, p, l, rows, gap, least, i, z, rfl, hz2, hO, (x1.trans x23).sqT (hP.row i p z hp hz2), (hC i l hl).ext x23.ext, fun q H4 x4 nq hq => ?_⟩
      have t3 := t2.ext x3.ext
      have qD : q ≠ D := fun z => by rw [z, x4 _ _ t3.lst] at hq; have := x4 _ _ t3.lst; rw [← z] at this; rw [z, t3.lst] at nq; cases nq
      refine ⟨_, x4 _ _ t3.lst, by rw [List.length_map, t3.len]; omega, es ++ [q], ex_new x1.tab (x23.trans (ex_same x3.tab x4)) nD, t3.add (same_ext x4) nq hq (fun z => (f2 D z).2 rfl), fun e h => ?_⟩
      rcases List.mem_append.mp h with z | z
      · exact f2 e z
      · rw [List.mem_singleton.mp z]
        exact ⟨x23.old _ nq, qD⟩
    · rintro H2 ⟨es, x2, t2, f2⟩
      exact k D es H2 (x1.trans x2) (x1.old _ nD) (fun e h => ⟨x1.old _ (f2 e h).1, (f2 e h).2⟩) t2
end
end TG
namespace TG
open PySem L2 Gx
theorem ToldAt.go {H H' : Hp} {r : Addr} {es : List Addr} {f : Nat → List Int} {n : Nat} (t : ToldAt H r es f n) (x : Same H H') : ToldAt H' r es f n := t.ext (same_ext x)
section
variable {P : Program} {w : World} {K : PySem.W.Frag} {mg : Str → Option Value} {base : Heap} {cs : List (Addr × Addr)}
theorem StyleAt.same {H H' : Hp} {a : Addr} {gap least : Int} (p : StyleAt K H a gap least) (e : Same H H') : StyleAt K H' a gap least := ⟨same_sqT e p.tup, p.g0, p.g1, p.l0, p.l1⟩
end
end TG
namespace TG
open PySem L2 Gx
theorem ToldAt.congr {H : Hp} {r : Addr} {es : List Addr} {f g : Nat → List Int} {n : Nat} (t : ToldAt H r es f n) (e : ∀ i, i < n → f i = g i) : ToldAt H r es g n :=
  ⟨t.lst, t.len, t.nd, fun i u h => by rw [← e i (by rw [← t.len]; exact (List.getElem?_eq_some_iff.mp h).1)]; exact t.at_ i u h⟩
theorem ToldAt.put {H : Hp} {r : Addr} {es : List Addr} {f : Nat → List Int} {n i : Nat} {e : Addr} {xs : List Int} (t : ToldAt H r es f n) (he : es[i]? = some e) (ne : e ≠ r) : ToldAt (upd H e (.lst (xs.map V.int))) r es (fun k => if k = i then xs else f k) n := by
  refine ⟨by rw [upd_ne ne.symm]; exact t.lst, t.len, t.nd, fun k u h => ?_⟩
  by_cases q : k = i
  · subst q
    rw [he] at h
    cases h
    rw [upd_same, if_pos rfl]
  · rw [if_neg q, upd_ne (fun z => q (nd_ix t.nd h (by rw [z]; exact he)))]
    exact t.at_ k u h
section
variable {P : Program} {w : World} {K : PySem.W.Frag} {mg : Str → Option Value} {base : Heap} {cs : List (Addr × Addr)}
end
end TG
namespace TG
open PySem L2 Gx
def rowsD (rows : List (List Str)) : List PyData := rows.map fun r => .tuple (r.map .str)
theorem dpAll_of {K : PySem.W.Frag} {H : Hp} : ∀ {vs : List V} {ds : List PyData}, vs.length = ds.length → (∀ (i : Nat) (v : V) (d : PyData), vs[i]? = some v → ds[i]? = some d → Dp K H v d) → DpAll K H vs ds
  | [], [], _, _ => .nil
  | [], _ :: _, h, _ => by simp at h
  | _ :: _, [], h, _ => by simp at h
  | v :: vs, d :: ds, h, k => .cons (k 0 v d rfl rfl) (dpAll_of (by simpa using h) fun i v' d' h1 h2 => k (i + 1) v' d' (by simpa using h1) (by simpa using h2))
theorem dp_rows {K : PySem.W.Frag} {H : Hp} : ∀ {as : List Addr} {rows : List (List Str)}, as.length = rows.length → (∀ (i : Nat) (q : Addr) (r : List Str), as[i]? = some q → rows[i]? = some r → SqT K H q (sV r)) → DpAll K H (as.map V.ref) (rowsD rows)
  | [], [], _, _ => .nil
  | [], _ :: _, h, _ => by simp at h
  | _ :: _, [], h, _ => by simp at h
  | a :: as, r :: rows, h, k => .cons (.tup (k 0 a r rfl rfl) (dp_strs r)) (dp_rows (by simpa using h) fun i q r' h1 h2 => k (i + 1) q r' (by simpa using h1) (by simpa using h2))
theorem canAll_rows : ∀ {rows : List (List Str)}, (∀ r ∈ rows, ∀ z ∈ r, CellOk z) → PyData.canLayAll0 (rowsD rows) = true
  | [], _ => rfl
  | r :: rows, h => by
    show PyData.canLayAll0 (.tuple (r.map .str) :: rowsD rows) = true
    simp only [PyData.canLayAll0, PyData.canLay0, Bool.and_eq_true]
    exact ⟨canAll_strs fun z hz => (h r List.mem_cons_self z hz).sg, canAll_rows fun r' hr => h r' (List.mem_cons_of_mem _ hr)⟩
theorem depthAll_rows : ∀ rows : List (List Str), PyData.depthAll (rowsD rows) ≤ 1
  | [] => Nat.zero_le _
  | r :: rows => by
    show PyData.depthAll (.tuple (r.map .str) :: rowsD rows) ≤ 1
    simp only [PyData.depthAll, PyData.depth, depthAll_strs]
    have := depthAll_rows rows
    omega
theorem can_rows {rows : List (List Str)} (h : PgOk rows) : PyData.canLay0 (.list (rowsD rows)) = true := by
  simp only [PyData.canLay0]
  exact canAll_rows fun r hr z hz => (h.rows r hr).cells z hz
theorem shaped_rows {rows : List (List Str)} (h : PgOk rows) : SeqAt.shaped (.list (rowsD rows)) = true := by
  have := depthAll_rows rows
  unfold SeqAt.shaped
  rw [can_rows h, Bool.true_and]
  exact decide_eq_true (by simp only [PyData.depth]; omega)
theorem tabs_kb {cs : List (Addr × Addr)} {b l : Addr} {H H' : Hp} (t : Tabs cs H) (B : BoxAt H b l) (x : KB b l H H') : Tabs cs H' := fun p hp => by
  obtain ⟨ps, h1, h2⟩ := t p hp
  obtain ⟨ns, st, e1, e2, _⟩ := B
  exact ⟨ps, x _ _ h1 (ne_of h1 e1 (by intro z; cases z)) (ne_of h1 e2 (by intro z; cases z)), h2⟩
theorem box_ext {b l : Addr} {H H' : Hp} (B : BoxAt H b l) (x : LamX.ExtN H H') : BoxAt H' b l := let ⟨ns, st, h1, h2, h3⟩ := B; ⟨ns, st, x _ _ h1 (by intro ps z; cases z), x _ _ h2 (by intro ps z; cases z), h3⟩
/-- what stands in a turn of the law: the box, the tables, the page and its copy, the style -/
structure PageT (cs : List (Addr × Addr)) (b l p q h : Addr) (as : List Addr) (rows : List (List Str)) (gap least : Int) (H : Hp) : Prop where
  box : BoxAt H b l
  tab : Tabs cs H
  pg : H p = some (.lst (as.map V.ref))
  hd : H h = some (.lst (as.map V.ref))
  al : as.length = rows.length
  row : ∀ (i : Nat) (a : Addr) (z : List Str), as[i]? = some a → rows[i]? = some z → H a = some (.tup (sV z))
  sty : H q = some (.tup [.int gap, .int least])
  g0 : 0 ≤ gap
  g1 : gap ≤ 4
  l0 : 0 ≤ least
  l1 : least ≤ 12
  ok : PgOk rows
theorem PageT.ext {cs : List (Addr × Addr)} {b l p q h : Addr} {as : List Addr} {rows : List (List Str)} {gap least : Int} {H H' : Hp} (t : PageT cs b l p q h as rows gap least H) (x : LamX.ExtN H H') (y : Tabs cs H') : PageT cs b l p q h as rows gap least H' :=
  ⟨box_ext t.box x, y, x _ _ t.pg (by intro ps z; cases z), x _ _ t.hd (by intro ps z; cases z), t.al, fun i a z h1 h2 => x _ _ (t.row i a z h1 h2) (by intro ps z; cases z), x _ _ t.sty (by intro ps z; cases z), t.g0, t.g1, t.l0, t.l1, t.ok⟩
end TG
namespace Zm
open PySem PySem.Spec PyProof.Rows L2
section
variable {P : Program} {w : World} {A : Around} {E : Value → Shared → Prop} {s : Shared} {z TI TO i1 i2 l1 l2 : Addr}
end
end Zm
namespace Zm
open PySem PySem.Spec PyProof.Rows L2
abbrev k1 (h : Heap) (a : Addr) : Heap := h.push { cls := .type "tuple_iterator", data := .fields #[.ref a, .int 0 0] }
abbrev k2 (h : Heap) (a b : Addr) : Heap := (k1 h a).push { cls := .type "list_iterator", data := .fields #[.ref b, .int 0 0] }
abbrev k3 (h : Heap) (a b : Addr) : Heap := (k2 h a b).push { cls := .type "tuple", data := .seq #[.ref h.objs.size, .ref (k1 h a).objs.size] }
abbrev k4 (h : Heap) (a b : Addr) : Heap := (k3 h a b).push { cls := .type "tuple", data := .seq #[.none, .none] }
abbrev k5 (h : Heap) (a b : Addr) : Heap := (k4 h a b).push { cls := .type "zip", data := .fields #[.none, .bool false, .bool false, .ref (k2 h a b).objs.size, .ref (k3 h a b).objs.size] }
theorem made (a b : Addr) (xs ys : Array Value) : Meets (Builtin.«zip.__new__» ⟨[.type "zip", .ref a, .ref b], []⟩) (fun _ R t => t.heap.IsTuple a xs ∧ t.heap.IsList b ys ∧ R (.ok (.ret (.ref (k4 t.heap a b).objs.size))) { t with heap := k5 t.heap a b }) :=
  .of_wp fun P w A R t h => by
    obtain ⟨hp, g, d, tk, os⟩ := t
    obtain ⟨u1, u2, h⟩ := h
    have hsub := sub_zip
    have v1 : Heap.IsTuple (Shared.heap ⟨hp, g, d, tk, os⟩) a xs := u1
    have v2 : Heap.IsList (Shared.heap ⟨hp.push { cls := .type "tuple_iterator", data := .fields #[.ref a, .int 0 0] }, g, d, tk, os⟩) b ys := Heap.IsList.push u2 _
    wp_walk using wpAny_pyIter_tuple v1, wpAny_pyIter_list v2
    exact ⟨_, rfl, h⟩
section
variable {P : Program} {w : World} {A : Around} {E : Value → Shared → Prop} {s : Shared}
end
end Zm
namespace TG
open PySem L2 Gx
section
variable {P : Program} {w : World} {K : PySem.W.Frag} {mg : Str → Option Value} {base : Heap} {cs : List (Addr × Addr)}
theorem begs_get {rows : List (List Str)} {gap least : Int} {i c : Nat} (h : c ≤ ncl rows i) : (begsR rows gap least i)[c]? = some (begC rows gap least i (ncl rows i) c) := by
  unfold begsR begsTo
  rw [List.getElem?_map, List.getElem?_range (by omega)]
  rfl
end
end TG
namespace TG
open PySem L2 Gx
section
variable {P : Program} {w : World} {K : PySem.W.Frag} {mg : Str → Option Value} {base : Heap} {cs : List (Addr × Addr)}
end
end TG
namespace Lv
open PySem PySem.Spec PyProof.Rows L2 NdefX GenW
section
variable {X : Cx} {pins : List (Addr × Obj)} {σ : L2.St} {H : Hp} {s : Shared}
end
section
variable {P : Program} {w : World} {K : PySem.W.Frag} {mg : Str → Option Value} {base : Heap}
end
end Lv
namespace TG
open PySem PySem.Spec PyProof.Rows L2
section
variable {P : Program} {w : World}
variable {K : PySem.W.Frag} {mg : Str → Option Value} {base : Heap} {A : Around} {outer : List Env} {s s' : Shared}
end
end TG
namespace TG
open PySem PySem.Spec PyProof.Rows L2 NdefX GenW Gx Lv
section
variable {P : Program} {w : World} {K : PySem.W.Frag} {mg : Str → Option Value} {base : Heap}
end
end TG
namespace TG
open PySem PySem.Spec PyProof.Rows L2 NdefX GenW Gx Lv
end TG
namespace TG
open PySem PySem.Spec PyProof.Rows L2 NdefX GenW Gx Lv
end TG


namespace TG
open PySem PySem.Spec PyProof.Rows L2
def clsB : Stmt → List Stmt
  | .ClassDef _ _ _ b _ _ _ _ _ _ _ => b
  | _ => []
def mth (c i : Nat) : Stmt := (clsB (top c)).getD i (.Pass ⟨0, 0, 0, 0⟩)
end TG


namespace TG
open PySem PySem.Spec PyProof.Rows L2
/-! ### the head -/
def dd (i : Nat) (x : Str) : He.DefD := ⟨(x, none), x, x, defArgs (top i), defBody (top i), defScope (top i), [], []⟩
def dm (c i : Nat) (C m : Str) : He.DefD := ⟨(C, some m), m, C ++ "." ++ m, defArgs (mth c i), defBody (mth c i), defScope (mth c i), [], []⟩
def fnL : List He.DefD := [dd 17 "is_whole", dd 18 "is_sign", dd 19 "is_text_of_signs", dd 20 "is_filled", dd 21 "is_row", dd 22 "first_misfit", dd 23 "check_page", dd 24 "check_style", dd 26 "stretches", dd 27 "closed_runs", dd 28 "is_closed", dd 29 "described", dd 30 "stands_right", dd 31 "is_figures", dd 33 "laid", dd 34 "closed_cells", dd 35 "left_ends", dd 36 "begins_of", dd 39 "check_number", dd 40 "check_sign", dd 41 "check_fits", dd 42 "halves", dd 43 "joined", dd 44 "without_first", dd 45 "moved", dd 49 "row_spots", dd 50 "page_spots", dd 52 "_law_begun", dd 53 "_law_take", dd 54 "_law_alike", dd 55 "_law_sign", dd 56 "_law_cell", dd 57 "_law_row", dd 58 "_law_page", dd 59 "_law_style", dd 60 "_law_typed", dd 61 "_law_parted", dd 62 "law", dm 38 0 "Sheet" "__init__", dm 38 4 "Sheet" "strike", dm 38 5 "Sheet" "erase", dm 38 6 "Sheet" "part", dm 38 7 "Sheet" "unite", dm 38 8 "Sheet" "back", dm 38 9 "Sheet" "page", dm 38 10 "Sheet" "begins", dm 38 11 "Sheet" "lay", dm 48 0 "Cursor" "__init__", dm 48 1 "Cursor" "at", dm 48 4 "Cursor" "right", dm 48 8 "Cursor" "rub", dm 48 10 "Cursor" "page", dm 48 11 "Cursor" "step", dm 48 12 "Cursor" "beside"]
def faL : List He.Fa := [.glo "is_whole", .glo "is_sign", .glo "is_text_of_signs", .glo "is_filled", .glo "is_row", .glo "first_misfit", .glo "check_page", .glo "check_style", .glo "stretches", .glo "closed_runs", .glo "is_closed", .glo "described", .glo "stands_right", .glo "is_figures", .glo "laid", .glo "closed_cells", .glo "left_ends", .glo "begins_of", .glo "check_number", .glo "check_sign", .glo "check_fits", .glo "halves", .glo "joined", .glo "without_first", .glo "moved", .glo "row_spots", .glo "page_spots", .glo "_law_begun", .glo "_law_take", .glo "_law_alike", .glo "_law_sign", .glo "_law_cell", .glo "_law_row", .glo "_law_page", .glo "_law_style", .glo "_law_typed", .glo "_law_parted", .glo "law", .int "BLANK" 32, .int "TILDE" 126, .int "PERCENT" 37, .int "MOST_ROWS" 30, .int "MOST_CELLS" 6, .int "MOST_SIGNS" 10, .int "MOST_GAP" 4, .int "MOST_LEAST" 12, .free "isinstance", .free "len", .free "range", .free "max", .free "min", .free "all", .free "str", .free "int", .free "bool", .free "list", .free "tuple", .free "enumerate", .free "ord", .free "zip", .free "sum", .glo "FIRST", .glo "Sheet", .glo "Cursor", .glo "GrowError", .glo "BadRow", .glo "BadCell", .cls "Sheet", .cls "Cursor", .noat "Cursor" "sheet", .noat "Cursor" "spot", .noat "Sheet" "rows", .noat "Sheet" "style", .noat "Sheet" "deeds", .mkr "Sheet", .mkr "Cursor", .exc "BadRow", .exc "BadCell", .exm "BadRow" "GrowError" true, .exm "BadCell" "GrowError" true, .str "TAB" "\t", .meth "Sheet" "strike", .meth "Sheet" "erase", .meth "Sheet" "part", .meth "Sheet" "unite", .meth "Sheet" "back", .meth "Sheet" "page", .meth "Sheet" "begins", .meth "Sheet" "lay", .meth "Cursor" "at", .meth "Cursor" "right", .meth "Cursor" "rub", .meth "Cursor" "page", .meth "Cursor" "step", .meth "Cursor" "beside"]
def tfB : List He.Defn := [("is_text_of_signs", none), ("is_row", none), ("stretches", none), ("described", none), ("stands_right", none)]
def lmL : List He.Defn := []
def tfL : List He.Defn := tfB ++ lmL
def exL : PySem.W.Frag → Bool := fun K => (lmL.all fun r => (tfB.all fun q => decide ((He.cT K q).2 ≠ (He.cT K r).2)) && (lmL.all fun q => decide (q = r) || decide ((He.cT K q).2 ≠ (He.cT K r).2)))
def constB (K : PySem.W.Frag) : Bool := match K.lookup (He.ga K "FIRST") with
  | some ⟨.type "tuple", _, .seq its _, _⟩ => match its.toList with
    | [.int 0 _, .int 0 _, .int 0 _] => true
    | _ => false
  | _ => false
def exC (K : PySem.W.Frag) : Bool := exL K && constB K
end TG


namespace TG
open PySem PySem.Spec PyProof.Rows L2
abbrev hdRow : PySem.W.OpenRow := PySem.W.OpenLaw.row PySem.Challenge.rw_tabgrow_k13_whole_in_whatever_order_it_i
abbrev hdHk : PySem.W.Hook := He.hookX 4 faL fnL [] tfL exC
def hdOb (s : PySem.W.SharedT) : He.AlX := He.obsX 4 faL fnL [] tfL exC (HandSHeadRun.getT s)
theorem hdOb_eq (s : PySem.W.SharedT) : hdOb s = hdHk.obs s.abs := He.obsX_eq (HandSHeadRun.getT_eq s)
def loose0 : List Str := [PySem.Str.ofString "_wall", PySem.Str.ofString "GrowError", PySem.Str.ofString "BadPage", PySem.Str.ofString "BadStyle", PySem.Str.ofString "BadRow", PySem.Str.ofString "BadCell", PySem.Str.ofString "MOST_ROWS", PySem.Str.ofString "MOST_CELLS", PySem.Str.ofString "MOST_SIGNS", PySem.Str.ofString "MOST_GAP", PySem.Str.ofString "MOST_LEAST", PySem.Str.ofString "BLANK", PySem.Str.ofString "TILDE", PySem.Str.ofString "PERCENT", PySem.Str.ofString "TAB", PySem.Str.ofString "is_whole", PySem.Str.ofString "is_sign", PySem.Str.ofString "is_text_of_signs", PySem.Str.ofString "is_filled", PySem.Str.ofString "is_row"]
def loose1 : List Str := [PySem.Str.ofString "first_misfit", PySem.Str.ofString "check_page", PySem.Str.ofString "check_style", PySem.Str.ofString "stretches", PySem.Str.ofString "closed_runs", PySem.Str.ofString "is_closed", PySem.Str.ofString "described", PySem.Str.ofString "stands_right", PySem.Str.ofString "is_figures", PySem.Str.ofString "laid", PySem.Str.ofString "closed_cells", PySem.Str.ofString "left_ends", PySem.Str.ofString "begins_of", PySem.Str.ofString "Sheet", PySem.Str.ofString "check_number", PySem.Str.ofString "check_sign", PySem.Str.ofString "check_fits", PySem.Str.ofString "halves", PySem.Str.ofString "joined", PySem.Str.ofString "without_first"]
def loose2 : List Str := [PySem.Str.ofString "moved", PySem.Str.ofString "FIRST", PySem.Str.ofString "Cursor", PySem.Str.ofString "row_spots", PySem.Str.ofString "page_spots", PySem.Str.ofString "_law_begun", PySem.Str.ofString "_law_take", PySem.Str.ofString "_law_alike", PySem.Str.ofString "_law_sign", PySem.Str.ofString "_law_cell", PySem.Str.ofString "_law_row", PySem.Str.ofString "_law_page", PySem.Str.ofString "_law_style", PySem.Str.ofString "_law_typed", PySem.Str.ofString "_law_parted"]
def looseL : List Str := loose0 ++ loose1 ++ loose2
theorem hdRun (w : World) : HandSHeadRun.RunEq hdRow (PySem.W.view hdRow.prog [62]) hdHk hdOb 4000 looseL w := by
  intro os
  kernel_rfl
end TG

namespace TGK
open TG
open PySem PySem.Spec PyProof.Rows L2 Gx
/-! ### places of this text -/
abbrev s_check_number : Stmt := top 39
abbrev s_check_sign : Stmt := top 40
abbrev s_check_fits : Stmt := top 41
abbrev s_halves : Stmt := top 42
abbrev s_joined : Stmt := top 43
abbrev s_without_first : Stmt := top 44
abbrev s_pmoved : Stmt := top 45
abbrev s_row_spots : Stmt := top 49
abbrev s_page_spots : Stmt := top 50
abbrev nSheet : Nat := 38
abbrev nCursor : Nat := 48
end TGK

namespace EnT
open PySem PySem.Spec PyProof.Rows L2
/-! ### enumerate over a tuple -/
theorem newClass_enum (v : Value) : Builtin.SmallTypes.newClass "enumerate" { pos := [Value.type "enumerate", v] } = pure (Value.type "enumerate", [v]) := by
  simp [Builtin.SmallTypes.newClass, show isType (Value.type "enumerate") = pure true from rfl, sub_enumerate]
theorem meets_enum1 (v : Value) (o : Obj) (H : Heap → Prop) (b : Begins v o H) : Meets (Builtin.«enumerate.__new__» { pos := [Value.type "enumerate", v] }) fun _ R s =>
    H s.heap ∧ R (Except.ok (Flow.ret (Value.ref (s.heap.push o).objs.size))) { heap := (s.heap.push o).push { cls := Value.type "enumerate", data := Data.fields #[Value.none, Value.bool false, Value.ref s.heap.objs.size, rawInt 0, Value.none, Value.none] }, gens := s.gens, drawn := s.drawn, toks := s.toks, os := s.os } := by
  intro prog w A R s ⟨h1, h2⟩
  unfold Builtin.«enumerate.__new__»
  rw [newClass_enum]
  refine wpAny_bind (wpAny_pure ?_)
  simp only [beq_self_eq_true, if_true]
  have key : ∀ s' : Shared, s' = s → wpAny (model prog w) A.in1 (do
      let __do_lift ← pyIter v
      let __do_lift ← Builtin.SmallTypes.newRecord (Value.type "enumerate") (Builtin.SmallTypes.ownedTupleFields ++ [__do_lift, rawInt 0, Value.none, Value.none])
      ret __do_lift) (fun fin s' => match fin with
          | Fin.done f => R (Except.ok f) s'
          | Fin.again c' => c'.quiet = true ∧ codeAny (model prog w) A c' R s') (fun e s' => R (Except.error e) s') s' := by
    rintro s' rfl
    refine wpAny_bind (b.iter prog w A.in1 _ s' _ h1 (wpAny_bind ?_))
    refine wpAny_newObj_type (T := "enumerate") (data := Data.fields #[Value.none, Value.bool false, Value.ref s'.heap.objs.size, rawInt 0, Value.none, Value.none]) (dict := none) ?_
    exact wpAny_pure h2
  refine wpAny_bind ?_
  unfold Builtin.SmallTypes.calledThroughType
  refine wpAny_bind (wpAny_stack fun st _ _ _ => ?_)
  refine wpAny_pure ?_
  exact iteInduction (motive := fun m => wpAny (model prog w) A.in1 m _ _ s) (fun _ => key s rfl) (fun _ => key s rfl)
theorem ao1 (obj v : Value) : argsOk "object.__init__" { pos := obj :: [v] } := by
  constructor <;> rfl
theorem call_enum1 {prog : Program} {w : World} {A : Around} {E : Value → Shared → Prop} {s : Shared} {v : Value} {o : Obj} {H : Heap → Prop} {Q : Value → Shared → Prop} (b : Begins v o H) (h : H s.heap)
    (k : ∀ h' : Heap, IsEnum h' (s.heap.objs.size + 1) s.heap.objs.size 0 Value.none → h'.get? s.heap.objs.size = some o → h'.objs.size = s.heap.objs.size + 2 → (∀ (b : Addr) (o : Obj), s.heap.get? b = some o → h'.get? b = some o) →
      Q (.ref (s.heap.objs.size + 1)) { s with heap := h' }) : wpAny (model prog w) A (call (Value.type "enumerate") [v]) Q E s := by
  have e1 : (s.heap.push o).objs.size = s.heap.objs.size + 1 := Array.size_push ..
  refine callType_new F.called_enumerate (by decide) (F.typeCall_enumerate_1 v) (F.newCall_enumerate_1 v) (fun obj => ao1 obj v) F.entry_enumerate_new (meets_enum1 v o H b) ⟨h, ?_⟩
  have n1 : ∀ (b : Addr) (u : Obj), s.heap.get? b = some u → (s.heap.push o).get? b = some u := fun b u q => Heap.get?_push_of_some _ q
  have g1 : (s.heap.push o).get? s.heap.objs.size = some o := Heap.get?_push_size _ b.free
  have g2 : ((s.heap.push o).push { cls := Value.type "enumerate", data := Data.fields #[Value.none, Value.bool false, Value.ref s.heap.objs.size, rawInt 0, Value.none, Value.none] }).get? (s.heap.push o).objs.size = some { cls := Value.type "enumerate", data := Data.fields #[Value.none, Value.bool false, Value.ref s.heap.objs.size, rawInt 0, Value.none, Value.none] } := Heap.get?_push_size _ rfl
  refine ⟨⟨_, g2, rfl⟩, ?_⟩
  rw [e1] at g2 ⊢
  exact k _ g2 (Heap.get?_push_of_some _ g1) (by show (Array.push _ _).size = _; rw [Array.size_push]; show (s.heap.objs.push o).size + 1 = _; rw [Array.size_push]) fun b u q => Heap.get?_push_of_some _ (n1 b u q)
/-- as Ite, over a tuple -/
def Itet (K : PySem.W.Frag) (a : Addr) : It where
  go := fun i H => ∃ xs x, SqT K H a xs ∧ xs[i]? = some x
  yld := fun i H v H' => ∃ (T : Addr) (x : V), v = .ref T ∧ H T = none ∧ H' = upd H T (.tup [.int (i : Nat), x]) ∧ ∀ xs : List V, SqT K H a xs → xs[i]? = some x
  stop := fun i H => ∃ xs, SqT K H a xs ∧ xs.length = i
theorem vals_get {xs : List V} {us : List Value} (h : Vals xs us) : ∀ {i : Nat} {x : V} {u : Value}, xs[i]? = some x → us.toArray[i]? = some u → RelV x u := by
  induction h with
  | nil => intro i x u e _; cases e
  | cons r _ ih =>
    intro i x u e1 e2
    cases i with
    | zero =>
      simp at e1 e2
      rw [← e1, ← e2]
      exact r
    | succ i =>
      simp at e1 e2
      exact ih e1 (by simpa using e2)
theorem turn_enumT {P : Program} {w : World} {K : PySem.W.Frag} {elts : List Expr} {kk : Nat} {tpos : Pos} (a e it : Addr) (nei : e ≠ it) (nai : a ≠ it) (nae : a ≠ e) :
    Turn P w K (.Tuple elts kk tpos) (Itet K a) [e, it] e fun i h => (∃ old, IsEnum h e it (i : Nat) old) ∧ h.IsTupleIter it a i := by
  have hni : e ∉ [it, a] := fun z => by
    simp only [List.mem_cons, List.not_mem_nil, or_false] at z
    rcases z with z | z
    · exact nei z
    · exact nae z.symm
  refine ⟨List.mem_cons_self, fun i h hh b hb => ?_, fun i h h' hh k => ?_, ?_, ?_, fun A i s Q E hh q => ?_⟩
  · obtain ⟨⟨old, h1⟩, o, h2, h3, h4⟩ := hh
    simp only [List.mem_cons, List.not_mem_nil, or_false] at hb
    rcases hb with rfl | rfl
    · exact ⟨_, h1, fun v z => by cases z⟩
    · exact ⟨o, h2, fun v z => by rw [h4] at z; cases z⟩
  · obtain ⟨⟨old, h1⟩, o, h2, h3⟩ := hh
    exact ⟨⟨old, k e (by simp) _ h1⟩, o, k it (by simp) _ h2, h3⟩
  · intro X hP hw hK hc i pins s σ H E I hfp hh hgo
    subst hP hw hK
    obtain ⟨⟨old, hE⟩, hI⟩ := hh
    obtain ⟨xs, x, hS, hx⟩ := hgo
    obtain ⟨its, hv, ht, hl⟩ := I.tuple hS
    have W := WalksT.enumerateD (Draws.tuple (prog := X.prog) (w := X.w) (A := X.A.in1) (I.ok.hd hc) it a nai its.toArray) e nei hni (by simp)
    have hlen := hv.length
    have hi : i < xs.length := (List.getElem?_eq_some_iff.mp hx).1
    refine W.item i s _ E (by simp; omega) ⟨⟨old, hE⟩, hI, ht⟩ fun T vals h' tk hPt hsz hT hMid hk => ⟨_, rfl, ?_⟩
    refine W.go elts kk tpos i T _ _ E hMid fun h'' hSt hk2 => ?_
    obtain ⟨t, u, hu, rfl⟩ := hPt
    have hTn : H T = none := I.hok.fresh hsz
    have hTw := W.apart i T h' hMid
    have hT2 : h''.IsTuple T #[.int (i : Nat) t, u] := by
      obtain ⟨o, q1, q2⟩ := hT
      exact ⟨o, hk2 T o hTw q1, q2⟩
    refine ⟨.ref T, upd H T (.tup [.int (i : Nat), x]), I.turnedNew (ch := [e, it]) (fun b o hb q => hk2 b o hb (hk b o hb q)) hfp hsz ?_, rfl, ⟨T, x, rfl, hTn, rfl, fun ys hy => ?_⟩, ⟨hSt.1, hSt.2.1⟩, fun b hb => ?_⟩
    · simp only [ObjOk]
      exact ⟨by show 2 ≤ sizeLine; decide, [_, _], .cons ⟨t, rfl⟩ (.cons (vals_get hv hx hu) .nil), hT2⟩
    · rw [I.tuple_inj hy hS]; exact hx
    · rw [upd_ne fun z : b = T => hTw (by rw [← z]; exact hb)]
      exact (hfp b hb).1
  · intro X hP hw hK hc i pins s σ H E I hfp hh hst
    subst hP hw hK
    obtain ⟨⟨old, hE⟩, hI⟩ := hh
    obtain ⟨xs, hS, rfl⟩ := hst
    obtain ⟨its, hv, ht, hl⟩ := I.tuple hS
    have W := WalksT.enumerateD (Draws.tuple (prog := X.prog) (w := X.w) (A := X.A.in1) (I.ok.hd hc) it a nai its.toArray) e nei hni (by simp)
    have hlen := hv.length
    have en : its.toArray.size = xs.length := by simp; omega
    rw [en] at W
    exact W.done s _ E ⟨⟨old, hE⟩, hI, ht⟩ fun h' tk hk => ⟨rfl, I.turnedL (ch := [e, it]) hk hfp⟩
  · obtain ⟨⟨old, hE⟩, _⟩ := hh
    exact wpAny_pyIter_enum hE q
def iEnumT (K : PySem.W.Frag) (te : TE) : TI := fun σ H R => te σ H fun v H1 => ∃ a xs, v = .ref a ∧ SqT K H1 a xs ∧ R (Itet K a) H1
theorem pi_enumT {X : Cx} {e : Expr} {te : TE} {p pos tpos : Pos} {elts : List Expr} {kk : Nat} (hg : Gl X "enumerate") (hm : X.mg "enumerate" = none) (he : PE X e te) (hs : starEach [e] X.env = [(false, eval e X.env)] := by rfl) :
    PI X (.Tuple elts kk tpos) (.Call (.Name "enumerate" p) [e] [] pos) (iEnumT X.K te) := by
  refine ⟨fun pins s σ H R I h => ?_⟩
  refine wpAny_Call_Name_kw (ld_blt I hg hm boot_enumerate ?_)
  rw [hs]
  refine callWith_type1 (thn (he.run pins s σ H _ I h) fun v s1 ⟨x, H1, I1, r, a, xs, ex, hS, hR⟩ => ?_)
  subst ex
  obtain rfl : v = .ref a := r
  obtain ⟨its, hv, ht, hl⟩ := I1.tuple hS
  refine call_enum1 (begins_tuple a its.toArray) ht fun h' hE hit hsz hk => ?_
  have ha : a < s1.heap.objs.size := by
    obtain ⟨o, q, _⟩ := ht
    exact Heap.lt_size q
  refine wpAny_pyIter_enum hE ⟨s1.heap.objs.size + 1, [s1.heap.objs.size + 1, s1.heap.objs.size], _, Itet X.K a, H1, rfl, I1.kept hk, turn_enumT a (s1.heap.objs.size + 1) s1.heap.objs.size (Nat.succ_ne_self _) (Nat.ne_of_lt ha) (Nat.ne_of_lt (Nat.lt_succ_of_lt ha)), ⟨⟨_, hE⟩, _, hit, rfl, rfl⟩, fun b hb => ?_, hR⟩
  simp only [List.mem_cons, List.not_mem_nil, or_false] at hb
  rcases hb with rfl | rfl
  · exact I1.fpOk (Nat.le_succ _) (I1.hok.fresh (Nat.le_succ _))
  · exact I1.fpOk (Nat.le_refl _) (I1.hok.fresh (Nat.le_refl _))
theorem walk_enumT {K : PySem.W.Frag} {a : Addr} {xs : List V} : Walk (Itet K a) xs.length (fun H => SqT K H a xs) (YPair (fun i => some (.int (i : Nat))) fun i => xs[i]?) := by
  refine ⟨fun i H hi h => ?_, fun H h => ⟨xs, h, rfl⟩, fun i H x H' hi h hy => ?_⟩
  · exact ⟨xs, xs[i], h, List.getElem?_eq_getElem hi⟩
  · obtain ⟨T, v, rfl, hn, rfl, hx⟩ := hy
    exact ⟨T, _, v, rfl, hn, rfl, rfl, hx xs h⟩
end EnT

namespace TGK
open TG
open PySem PySem.Spec PyProof.Rows L2 Gx EnT
/-! ### comprehensions of two for's -/
abbrev InW (J1 : It) (g1 : TG) (tt1 : TT) (te : TE) (vs1 : List Nat) (σ2 : L2.St) (D : Addr) (H4 : Hp) (Nx : Hp → Prop) : Prop := ∃ W1 : Nat → Nat → Hp → Prop, (∃ m, W1 0 m H4) ∧ ∀ (j k : Nat) (H : Hp), W1 j k H → J1.stop j H ∧ Nx H ∨ J1.go j H ∧ ∃ Nx1 : Hp → Prop, (∀ H', Nx1 H' → ∃ k', k' < k ∧ W1 (j + 1) k' H') ∧
  ∀ (x : V) (H' : Hp), J1.yld j H x H' → g1 x (wipe σ2 vs1) H' fun σ3 H5 => wipe σ3 vs1 = wipe σ2 vs1 ∧ tt1 σ3 H5 fun b H6 => if b = true then te σ3 H6 fun y H7 => ∃ acc, H7 D = some (.lst acc) ∧ acc.length < sizeLine ∧ Nx1 (upd H7 D (.lst (acc ++ [y]))) else Nx1 H6
theorem lc2_in {J1 : It} {n1 : Nat} {G1 : Hp → Prop} {Y1 : Nat → Hp → V → Hp → Prop} (w : Walk J1 n1 G1 Y1) {g1 : TG} {tt1 : TT} {te : TE} {vs1 : List Nat} {σ2 : L2.St} {D : Addr} {H4 : Hp} {Nx : Hp → Prop} (Pv : Nat → Hp → Prop) (h0 : Pv 0 H4) (hg : ∀ i H, i ≤ n1 → Pv i H → G1 H)
    (hs : ∀ (j : Nat) (x : V) (H H' : Hp), j < n1 → Pv j H → Y1 j H x H' → g1 x (wipe σ2 vs1) H' fun σ3 H5 => wipe σ3 vs1 = wipe σ2 vs1 ∧ tt1 σ3 H5 fun b H6 => if b = true then te σ3 H6 fun y H7 => ∃ acc, H7 D = some (.lst acc) ∧ acc.length < sizeLine ∧ Pv (j + 1) (upd H7 D (.lst (acc ++ [y]))) else Pv (j + 1) H6)
    (hd : ∀ H, Pv n1 H → Nx H) : InW J1 g1 tt1 te vs1 σ2 D H4 Nx := by
  refine ⟨fun j k H => j ≤ n1 ∧ k = n1 - j ∧ Pv j H, ⟨_, Nat.zero_le _, rfl, h0⟩, fun j k H ⟨h1, h2, h3⟩ => ?_⟩
  by_cases h : j = n1
  · subst h
    exact .inl ⟨w.stops H (hg _ H (Nat.le_refl _) h3), hd H h3⟩
  · have hj : j < n1 := by omega
    exact .inr ⟨w.goes j H hj (hg j H h1 h3), Pv (j + 1), fun H' q => ⟨n1 - (j + 1), by omega, hj, rfl, q⟩, fun x H' hy => hs j x H H' hj h3 (w.yields j H x H' hj (hg j H h1 h3) hy)⟩
theorem lc2_it {J : It} {n : Nat} {G : Hp → Prop} {Y : Nat → Hp → V → Hp → Prop} (w : Walk J n G Y) {wi1 : TI} {g g1 : TG} {tt tt1 : TT} {te : TE} {vs vs1 : List Nat} {σ : L2.St} {H1 : Hp} {D : Addr} {Qd : Hp → Prop} (Pv : Nat → Hp → Prop) (h0 : Pv 0 (upd H1 D (.lst []))) (hg : ∀ i H, i ≤ n → Pv i H → G H)
    (hs : ∀ (i : Nat) (x : V) (H H' : Hp), i < n → Pv i H → Y i H x H' → g x (wipe σ vs) H' fun σ2 H2 => wipe σ2 vs = wipe σ vs ∧ tt σ2 H2 fun b H3 => if b = true then wi1 σ2 H3 fun J1 H4 => InW J1 g1 tt1 te vs1 σ2 D H4 (Pv (i + 1)) else Pv (i + 1) H3)
    (hd : ∀ H, Pv n H → Qd H) :
    ∃ W : Nat → Nat → Hp → Prop, (∃ m, W 0 m (upd H1 D (.lst []))) ∧ ∀ (i m : Nat) (H : Hp), W i m H → J.stop i H ∧ Qd H ∨ J.go i H ∧ ∃ Nx : Hp → Prop, (∀ H', Nx H' → ∃ m', m' < m ∧ W (i + 1) m' H') ∧
      ∀ (x : V) (H' : Hp), J.yld i H x H' → g x (wipe σ vs) H' fun σ2 H2 => wipe σ2 vs = wipe σ vs ∧ tt σ2 H2 fun b H3 => if b = true then wi1 σ2 H3 fun J1 H4 => InW J1 g1 tt1 te vs1 σ2 D H4 Nx else Nx H3 := by
  refine ⟨fun i m H => i ≤ n ∧ m = n - i ∧ Pv i H, ⟨_, Nat.zero_le _, rfl, h0⟩, fun i m H ⟨h1, h2, h3⟩ => ?_⟩
  by_cases h : i = n
  · subst h
    exact .inl ⟨w.stops H (hg _ H (Nat.le_refl _) h3), hd H h3⟩
  · have hi : i < n := by omega
    exact .inr ⟨w.goes i H hi (hg i H h1 h3), Pv (i + 1), fun H' q => ⟨n - (i + 1), by omega, hi, rfl, q⟩, fun x H' hy => hs i x H H' hi h3 (w.yields i H x H' hi (hg i H h1 h3) hy)⟩
/-! ### a list of new tuples -/
structure TupL (H0 : Hp) (D : Addr) (l : List (List V)) (H : Hp) : Prop where
  sm : Same H0 H
  nD : H0 D = none
  ts : ∃ ts : List Addr, H D = some (.lst (ts.map V.ref)) ∧ ts.length = l.length ∧ ∀ (j : Nat) (t : Addr) (v : List V), ts[j]? = some t → l[j]? = some v → H t = some (.tup v)
theorem TupL.start {H0 : Hp} {D : Addr} (n : H0 D = none) : TupL H0 D [] (upd H0 D (.lst [])) := ⟨same_new n, n, [], upd_same, rfl, fun j t v h => by cases h⟩
theorem TupL.grow {H0 H H' : Hp} {D : Addr} {l : List (List V)} (o : TupL H0 D l H) (x : Same H H') : TupL H0 D l H' := by
  obtain ⟨ts, h1, h2, h3⟩ := o.ts
  exact ⟨fun b u e => x b u (o.sm b u e), o.nD, ts, x _ _ h1, h2, fun j t v e1 e2 => x _ _ (h3 j t v e1 e2)⟩
theorem TupL.more {H0 H : Hp} {D t : Addr} {l : List (List V)} {v : List V} (o : TupL H0 D l H) (ht : H t = some (.tup v)) : ∃ acc, H D = some (.lst acc) ∧ acc.length = l.length ∧ TupL H0 D (l ++ [v]) (upd H D (.lst (acc ++ [.ref t]))) := by
  obtain ⟨ts, h1, h2, h3⟩ := o.ts
  have tD : ∀ {t : Addr} {v : List V}, H t = some (.tup v) → t ≠ D := fun {t v} h z => by rw [z, h1] at h; cases h
  refine ⟨_, h1, by rw [List.length_map, h2], fun b u e => by rw [upd_ne (ne_of_none e o.nD)]; exact o.sm b u e, o.nD, ts ++ [t], by rw [upd_same]; simp, by rw [List.length_append, List.length_append, h2]; rfl, fun j s u e1 e2 => ?_⟩
  by_cases hj : j < ts.length
  · rw [List.getElem?_append_left hj] at e1
    rw [List.getElem?_append_left (by rw [← h2]; exact hj)] at e2
    have := h3 j s u e1 e2
    rw [upd_ne (tD this)]
    exact this
  · have hl := (List.getElem?_eq_some_iff.mp e1).1
    rw [List.length_append, List.length_singleton] at hl
    have ej : j = ts.length := by omega
    subst ej
    rw [List.getElem?_append_right (Nat.le_refl _), Nat.sub_self] at e1
    rw [h2, List.getElem?_append_right (Nat.le_refl _), Nat.sub_self] at e2
    cases e1
    cases e2
    rw [upd_ne (tD ht)]
    exact ht
/-! ### places -/
def rowSp (r : List Str) : List (Nat × Nat) := (List.range r.length).flatMap fun c => (List.range ((r.getD c nilS).length + 1)).map fun k => (c, k)
def pageSp (rows : List (List Str)) : List (Nat × Nat × Nat) := (List.range rows.length).flatMap fun i => (rowSp (rows.getD i [])).map fun p => (i, p.1, p.2)
abbrev v2 (p : Nat × Nat) : List V := [.int (p.1 : Nat), .int (p.2 : Nat)]
abbrev v3 (p : Nat × Nat × Nat) : List V := [.int (p.1 : Nat), .int (p.2.1 : Nat), .int (p.2.2 : Nat)]
def rowTo (r : List Str) (n : Nat) : List (Nat × Nat) := (List.range n).flatMap fun c => (List.range ((r.getD c nilS).length + 1)).map fun k => (c, k)
def pageTo (rows : List (List Str)) (n : Nat) : List (Nat × Nat × Nat) := (List.range n).flatMap fun i => (rowSp (rows.getD i [])).map fun p => (i, p.1, p.2)
theorem rowTo_succ (r : List Str) (n : Nat) : rowTo r (n + 1) = rowTo r n ++ (List.range ((r.getD n nilS).length + 1)).map fun k => (n, k) := by
  unfold rowTo
  rw [List.range_succ, List.flatMap_append]
  simp
theorem pageTo_succ (rows : List (List Str)) (n : Nat) : pageTo rows (n + 1) = pageTo rows n ++ (rowSp (rows.getD n [])).map fun p => (n, p.1, p.2) := by
  unfold pageTo
  rw [List.range_succ, List.flatMap_append]
  simp
theorem rowSp_len {r : List Str} (h : RowOk r) : ∀ {n : Nat}, n ≤ r.length → (rowTo r n).length ≤ 11 * n
  | 0, _ => by simp [rowTo]
  | n + 1, hn => by
    have ih := rowSp_len h (n := n) (by omega)
    have hc : n < r.length := by omega
    have := (h.cells _ (List.getElem_mem hc)).len
    have e : r.getD n nilS = r[n] := by rw [List.getD_eq_getElem?_getD, List.getElem?_eq_getElem hc]; rfl
    rw [rowTo_succ, List.length_append, List.length_map, List.length_range, e]
    omega
theorem pageSp_len {rows : List (List Str)} (h : PgOk rows) : ∀ {n : Nat}, n ≤ rows.length → (pageTo rows n).length ≤ 66 * n
  | 0, _ => by simp [pageTo]
  | n + 1, hn => by
    have ih := pageSp_len h (n := n) (by omega)
    have hc : n < rows.length := by omega
    have hr := h.rows _ (List.getElem_mem hc)
    have e : rows.getD n [] = rows[n] := by rw [List.getD_eq_getElem?_getD, List.getElem?_eq_getElem hc]; rfl
    have h1 := rowSp_len hr (Nat.le_refl _)
    have h2 := hr.len
    have h3 : rowSp rows[n] = rowTo rows[n] rows[n].length := rfl
    rw [pageTo_succ, List.length_append, List.length_map, e, h3]
    omega
theorem mem_rowSp {r : List Str} {c k : Nat} : (c, k) ∈ rowSp r ↔ c < r.length ∧ k ≤ (r.getD c nilS).length := by
  unfold rowSp
  rw [List.mem_flatMap]
  constructor
  · rintro ⟨a, h1, h2⟩
    obtain ⟨b, h3, h4⟩ := List.mem_map.mp h2
    injection h4 with h4 h5
    subst h4 h5
    rw [List.mem_range] at h1 h3
    exact ⟨h1, by omega⟩
  · rintro ⟨h1, h2⟩
    exact ⟨c, List.mem_range.mpr h1, List.mem_map.mpr ⟨k, List.mem_range.mpr (by omega), rfl⟩⟩
theorem mem_pageSp {rows : List (List Str)} {p : Nat × Nat × Nat} : p ∈ pageSp rows ↔ p.1 < rows.length ∧ (p.2.1, p.2.2) ∈ rowSp (rows.getD p.1 []) := by
  unfold pageSp
  rw [List.mem_flatMap]
  constructor
  · rintro ⟨a, h1, h2⟩
    obtain ⟨b, h3, rfl⟩ := List.mem_map.mp h2
    exact ⟨List.mem_range.mp h1, h3⟩
  · rintro ⟨h1, h2⟩
    exact ⟨p.1, List.mem_range.mpr h1, List.mem_map.mpr ⟨_, h2, rfl⟩⟩
theorem rowSp_nd (r : List Str) : (rowSp r).Nodup := by
  unfold rowSp
  refine List.pairwise_flatMap.mpr ⟨fun c _ => ?_, ?_⟩
  · rw [List.pairwise_map]
    refine List.nodup_range.imp fun h z => ?_
    injection z with _ z
    exact h z
  · refine List.nodup_range.imp fun h x hx y hy z => ?_
    obtain ⟨k, _, rfl⟩ := List.mem_map.mp hx
    obtain ⟨k', _, rfl⟩ := List.mem_map.mp hy
    injection z with z _
    exact h z
theorem pageSp_nd (rows : List (List Str)) : (pageSp rows).Nodup := by
  unfold pageSp
  refine List.pairwise_flatMap.mpr ⟨fun i _ => ?_, ?_⟩
  · rw [List.pairwise_map]
    refine (rowSp_nd _).imp fun {a b} h z => h ?_
    injection z with _ z
  · refine List.nodup_range.imp fun h x hx y hy z => ?_
    obtain ⟨k, _, rfl⟩ := List.mem_map.mp hx
    obtain ⟨k', _, rfl⟩ := List.mem_map.mp hy
    injection z with z _
    exact h z
/-- of one row's places those that are let by -/
theorem page_filter {rows : List (List Str)} {i : Nat} (hi : i < rows.length) (f : Nat × Nat → Bool) : (pageSp rows).filter (fun p => decide (p.1 = i) && f p.2) = ((rowSp (rows.getD i [])).filter f).map fun p => (i, p.1, p.2) := by
  have key : ∀ n, (pageTo rows n).filter (fun p => decide (p.1 = i) && f p.2) = if i < n then ((rowSp (rows.getD i [])).filter f).map fun p => (i, p.1, p.2) else [] := by
    intro n
    induction n with
    | zero => rfl
    | succ n ih =>
      rw [pageTo_succ, List.filter_append, ih, List.filter_map]
      by_cases h : n = i
      · subst h
        rw [if_neg (Nat.lt_irrefl _), if_pos (Nat.lt_succ_self _), List.nil_append]
        refine congrArg _ (List.filter_congr fun p _ => ?_)
        simp
      · have e : (rowSp (rows.getD n [])).filter ((fun p : Nat × Nat × Nat => decide (p.1 = i) && f p.2) ∘ fun p : Nat × Nat => (n, p.1, p.2)) = [] := by
          rw [List.filter_eq_nil_iff]
          intro p _
          simp [h]
        rw [e, List.map_nil, List.append_nil]
        by_cases h2 : i < n
        · rw [if_pos h2, if_pos (by omega)]
        · rw [if_neg h2, if_neg (by omega)]
  have := key rows.length
  rw [if_pos hi] at this
  exact this
end TGK

namespace EnT
open PySem PySem.Spec PyProof.Rows L2
/-! ### enumerate(zip(xs, ys)) over two lists -/
section
variable {prog : Program} {w : World} {A : Around} {E : Value → Shared → Prop} {s : Shared}
abbrev ZipU (h : Heap) (z TI TO : Addr) (p q : Value) : Prop := h.get? z = some { cls := .type "zip", dict := none, data := .fields #[p, q, .bool false, .ref TI, .ref TO], slots := #[] }
/-- a zip between two turns: its tuple is in, or out (and perhaps let go) -/
def ZipAt (h : Heap) (z TI TO i1 i2 l1 l2 : Addr) (i : Nat) : Prop := (ZipU h z TI TO .none (.bool false) ∨ ∃ (T : Addr) (f : Bool), ZipU h z TI TO (rawInt T) (.bool f)) ∧ IsPair h TI (.ref i1) (.ref i2) ∧ (∃ x y, IsPair h TO x y) ∧ h.IsListIter i1 l1 i ∧ h.IsListIter i2 l2 i
theorem tuple_gone {z TI TO T : Addr} {f : Bool} {R : Bool → Shared → Prop} (zz : ZipU s.heap z TI TO (rawInt T) (.bool f)) (no : s.heap.get? T = none) (k : R true s) : wpAny (model prog w) A (Builtin.SmallTypes.ownedTupleIsFree (.ref z)) R E s := by
  unfold Builtin.SmallTypes.ownedTupleIsFree
  refine wpAny_bind (wpAny_field zz rfl (x := rawInt T) rfl ?_)
  show wpAny _ _ (loadIfAlive ((T : Int).toNat) >>= _) _ _ s
  rw [Int.toNat_natCast]
  have gone : ∀ {R' : Option Obj → Shared → Prop}, R' none s → wpAny (model prog w) A (loadIfAlive T) R' E s := fun {R'} q => by
    have q' : R' (s.heap.get? T) s := by rw [no]; exact q
    exact fun _ _ _ => q'
  refine wpAny_bind (gone ?_)
  simp only [Option.isNone_none, if_true]
  exact wpAny_pure k
theorem zip_item_any {z TI TO i1 i2 l1 l2 : Addr} {k1 k2 : Nat} {xs ys : Array Value} {x y a b p q : Value} {Q : Value → Shared → Prop} (D : ZipApart z TI TO i1 i2 l1 l2)
    (zz : ZipU s.heap z TI TO p q) (fr : ∀ R : Bool → Shared → Prop, R true s → wpAny (model prog w) A (Builtin.SmallTypes.ownedTupleIsFree (.ref z)) R E s) (pI : IsPair s.heap TI (.ref i1) (.ref i2)) (pO : IsPair s.heap TO a b)
    (t1 : s.heap.IsListIter i1 l1 k1) (t2 : s.heap.IsListIter i2 l2 k2) (m1 : s.heap.IsList l1 xs) (m2 : s.heap.IsList l2 ys) (gx : xs[k1]? = some x) (gy : ys[k2]? = some y)
    (hQ : ∀ h', IsZip h' z TI TO (rawInt s.heap.objs.size) → IsPair h' TO x y → h'.IsListIter i1 l1 (k1 + 1) → h'.IsListIter i2 l2 (k2 + 1) → IsPair h' s.heap.objs.size x y → h'.objs.size = s.heap.objs.size + 1 →
      (∀ c o, c ≠ z → c ≠ TO → c ≠ i1 → c ≠ i2 → s.heap.get? c = some o → h'.get? c = some o) → Q (.ref s.heap.objs.size) { s with heap := h' }) :
    wpAny (model prog w) A (Builtin.«zip.__next__» ⟨[.ref z], []⟩) (fun fin s' => ∃ v, fin = .done (.ret v) ∧ Q v s') E s := by
  show wpAny _ _ (field (.ref z) 2 >>= _) _ _ s
  refine wpAny_bind (wpAny_field zz rfl (x := .bool false) rfl ?_)
  show wpAny _ _ (field (.ref z) 3 >>= _) _ _ s
  refine wpAny_bind (wpAny_field zz rfl (x := .ref TI) rfl ?_)
  refine wpAny_bind (wpAny_seqItems pI rfl ?_)
  show wpAny _ _ (Builtin.SmallTypes.ownedTupleIsFree (.ref z) >>= _) _ _ s
  refine wpAny_bind (fr _ ?_)
  simp only [if_true]
  refine wpAny_bind (wpAny_rule (wpAny_bind (wpAny_field zz rfl (x := .ref TO) rfl ?_)))
  refine wpAny_bind (wpAny_setField_rec zz (by simp) fun g1 z1 s1 => ?_)
  replace z1 : ZipU g1 z TI TO .ellipsis q := z1
  refine wpAny_bind ?_
  simp only [List.zipIdx_cons, List.zipIdx_nil, List.forIn_cons, List.forIn_nil]
  refine wpAny_bind (wpAny_bind (wpAny_onRaise ?_))
  show wpAny _ _ (Builtin.SmallTypes.nextOf (.ref i1) >>= _) _ _ { s with heap := g1 }
  refine wpAny_bind (wpAny_nextOf_list_item (s := { s with heap := g1 }) (t1.extBut s1.extBut D.i1z) (m1.extBut s1.extBut D.l1z) gx fun g2 u1 s2 => wpAny_pure ?_)
  have o2 : IsPair g2 TO a b := s2.extBut _ _ D.TOi1 (s1.extBut _ _ D.TOz pO)
  refine wpAny_bind (wpAny_seqItems (s := { s with heap := g2 }) o2 rfl (wpAny_bind (wpAny_updateSeq_pair (s := { s with heap := g2 }) o2 fun g3 o3 s3 => ?_)))
  replace o3 : IsPair g3 TO x b := o3
  refine wpAny_bind (wpAny_letGo (wpAny_pure (wpAny_bind (wpAny_bind (wpAny_onRaise ?_)))))
  show wpAny _ _ (Builtin.SmallTypes.nextOf (.ref i2) >>= _) _ _ { s with heap := g3 }
  refine wpAny_bind (wpAny_nextOf_list_item (s := { s with heap := g3 }) (((t2.extBut s1.extBut D.i2z).extBut s2.extBut D.i12.symm).extBut s3.extBut D.TOi2.symm) (((m2.extBut s1.extBut D.l2z).extBut s2.extBut D.l2i1).extBut s3.extBut D.l2TO) gy fun g4 u2 s4 => wpAny_pure ?_)
  have o4 : IsPair g4 TO x b := s4.extBut _ _ D.TOi2 o3
  refine wpAny_bind (wpAny_seqItems (s := { s with heap := g4 }) o4 rfl (wpAny_bind (wpAny_updateSeq_pair (s := { s with heap := g4 }) o4 fun g5 o5 s5 => ?_)))
  replace o5 : IsPair g5 TO x y := o5
  refine wpAny_bind (wpAny_letGo (wpAny_pure (wpAny_pure (wpAny_bind (wpAny_seqItems (s := { s with heap := g5 }) o5 rfl (wpAny_bind (wpAny_newTuple ?_)))))))
  have z5 : ZipU g5 z TI TO .ellipsis q := s5.extBut _ _ D.TOz.symm (s4.extBut _ _ D.i2z.symm (s3.extBut _ _ D.TOz.symm (s2.extBut _ _ D.i1z.symm z1)))
  have sz5 : g5.objs.size = s.heap.objs.size := by rw [s5.1, s4.1, s3.1, s2.1, s1.1]
  have up5 : ∀ c o, c ≠ z → c ≠ TO → c ≠ i1 → c ≠ i2 → s.heap.get? c = some o → g5.get? c = some o := fun c o c1 c2 c3 c4 e => s5.extBut _ _ c2 (s4.extBut _ _ c4 (s3.extBut _ _ c2 (s2.extBut _ _ c3 (s1.extBut _ _ c1 e))))
  have v1 : g5.IsListIter i1 l1 (k1 + 1) := ((u1.extBut s3.extBut D.TOi1.symm).extBut s4.extBut D.i12).extBut s5.extBut D.TOi1.symm
  have v2 : g5.IsListIter i2 l2 (k2 + 1) := u2.extBut s5.extBut D.TOi2.symm
  have ltz : z < g5.objs.size := Heap.lt_size z5
  show wpAny _ _ (Builtin.SmallTypes.ownedTupleHandOut (.ref z) (.ref g5.objs.size) >>= _) _ _ { s with heap := g5.push { cls := .type "tuple", data := .seq #[x, y] } }
  refine wpAny_bind ?_
  unfold Builtin.SmallTypes.ownedTupleHandOut
  have z6 : ZipU (g5.push { cls := .type "tuple", data := .seq #[x, y] }) z TI TO .ellipsis q := Heap.get?_push_of_some _ z5
  refine wpAny_bind (wpAny_setField_rec (s := { s with heap := g5.push { cls := .type "tuple", data := .seq #[x, y] } }) z6 (by simp) fun g7 z7 s7 => ?_)
  replace z7 : ZipU g7 z TI TO (rawInt g5.objs.size) q := z7
  refine wpAny_setField_rec (s := { s with heap := g7 }) z7 (by simp) fun g8 z8 s8 => ?_
  replace z8 : IsZip g8 z TI TO (rawInt g5.objs.size) := z8
  have up8 : ∀ c o, c ≠ z → g5.get? c = some o → g8.get? c = some o := fun c o c1 e => s8.extBut _ _ c1 (s7.extBut _ _ c1 (Heap.get?_push_of_some _ e))
  have T8 : IsPair g8 g5.objs.size x y := s8.extBut _ _ (Nat.ne_of_gt ltz) (s7.extBut _ _ (Nat.ne_of_gt ltz) (Heap.get?_push_size _ rfl))
  have sz8 : g8.objs.size = g5.objs.size + 1 := by rw [s8.1, s7.1, Heap.size_push]
  rw [sz5] at z8 T8 sz8
  refine wpAny_pure ⟨_, rfl, ?_⟩
  show Q (.ref g5.objs.size) { s with heap := g8 }
  rw [sz5]
  exact hQ g8 z8 (up8 _ _ D.TOz o5) (v1.at fun o e => up8 _ o D.i1z e) (v2.at fun o e => up8 _ o D.i2z e) T8 sz8 fun c o c1 c2 c3 c4 e => up8 c o c1 (up5 c o c1 c2 c3 c4 e)
theorem zip_end_any {z TI TO i1 i2 l1 l2 : Addr} {k1 k2 : Nat} {xs ys : Array Value} {a b p q : Value} {Q : Fin → Shared → Prop} (hh : A.handled = none) (D : ZipApart z TI TO i1 i2 l1 l2)
    (zz : ZipU s.heap z TI TO p q) (fr : ∀ R : Bool → Shared → Prop, R true s → wpAny (model prog w) A (Builtin.SmallTypes.ownedTupleIsFree (.ref z)) R E s) (pI : IsPair s.heap TI (.ref i1) (.ref i2)) (pO : IsPair s.heap TO a b)
    (t1 : s.heap.IsListIter i1 l1 k1) (t2 : s.heap.IsListIter i2 l2 k2) (m1 : s.heap.IsList l1 xs) (m2 : s.heap.IsList l2 ys) (ge : xs[k1]? = none ∨ ys[k2]? = none)
    (hE : ∀ h' e, (∀ c o, c ≠ z → c ≠ TO → c ≠ i1 → c ≠ i2 → s.heap.get? c = some o → h'.get? c = some o) → (∃ o, h'.get? e = some o ∧ o.cls = .type "StopIteration") → E (.ref e) { s with heap := h' }) :
    wpAny (model prog w) A (Builtin.«zip.__next__» ⟨[.ref z], []⟩) Q E s := by
  show wpAny _ _ (field (.ref z) 2 >>= _) _ _ s
  refine wpAny_bind (wpAny_field zz rfl (x := .bool false) rfl ?_)
  show wpAny _ _ (field (.ref z) 3 >>= _) _ _ s
  refine wpAny_bind (wpAny_field zz rfl (x := .ref TI) rfl (wpAny_bind (wpAny_seqItems pI rfl ?_)))
  show wpAny _ _ (Builtin.SmallTypes.ownedTupleIsFree (.ref z) >>= _) _ _ s
  refine wpAny_bind (fr _ ?_)
  simp only [if_true]
  refine wpAny_bind (wpAny_rule (wpAny_bind (wpAny_field zz rfl (x := .ref TO) rfl (wpAny_bind (wpAny_setField_rec zz (by simp) fun g1 z1 s1 => ?_)))))
  replace z1 : ZipU g1 z TI TO .ellipsis q := z1
  refine wpAny_bind ?_
  simp only [List.zipIdx_cons, List.zipIdx_nil, List.forIn_cons, List.forIn_nil]
  refine wpAny_bind (wpAny_bind (wpAny_onRaise ?_))
  show wpAny _ _ (Builtin.SmallTypes.nextOf (.ref i1) >>= _) _ _ { s with heap := g1 }
  cases gx : xs[k1]? with
  | none =>
    refine wpAny_bind (wpAny_nextOf_list_end (s := { s with heap := g1 }) hh (t1.extBut s1.extBut D.i1z) (m1.extBut s1.extBut D.l1z) gx fun g2 er s2 he => ?_)
    obtain ⟨oe, ho, hc⟩ := he
    have z2 : ZipU g2 z TI TO .ellipsis q := s2 _ _ D.i1z.symm z1
    have ez : er ≠ z := fun x => by subst x; rw [z2] at ho; cases ho; simp at hc
    exact wpAny_setField_rec (s := { s with heap := g2 }) z2 (by simp) fun g3 _ s3 => hE g3 er (fun c o c1 _ c3 _ x => s3.extBut _ _ c1 (s2 _ _ c3 (s1.extBut _ _ c1 x))) ⟨oe, s3.extBut _ _ ez ho, hc⟩
  | some x =>
    have gy : ys[k2]? = none := by rcases ge with h | h; (rw [gx] at h; cases h); exact h
    refine wpAny_bind (wpAny_nextOf_list_item (s := { s with heap := g1 }) (t1.extBut s1.extBut D.i1z) (m1.extBut s1.extBut D.l1z) gx fun g2 u1 s2 => wpAny_pure ?_)
    have o2 : IsPair g2 TO a b := s2.extBut _ _ D.TOi1 (s1.extBut _ _ D.TOz pO)
    refine wpAny_bind (wpAny_seqItems (s := { s with heap := g2 }) o2 rfl (wpAny_bind (wpAny_updateSeq_pair (s := { s with heap := g2 }) o2 fun g3 o3 s3 => ?_)))
    refine wpAny_bind (wpAny_letGo (wpAny_pure (wpAny_bind (wpAny_bind (wpAny_onRaise ?_)))))
    show wpAny _ _ (Builtin.SmallTypes.nextOf (.ref i2) >>= _) _ _ { s with heap := g3 }
    refine wpAny_bind (wpAny_nextOf_list_end (s := { s with heap := g3 }) hh (((t2.extBut s1.extBut D.i2z).extBut s2.extBut D.i12.symm).extBut s3.extBut D.TOi2.symm) (((m2.extBut s1.extBut D.l2z).extBut s2.extBut D.l2i1).extBut s3.extBut D.l2TO) gy fun g4 er s4 he => ?_)
    obtain ⟨oe, ho, hc⟩ := he
    have z4 : ZipU g4 z TI TO .ellipsis q := s4 _ _ D.i2z.symm (s3.extBut _ _ D.TOz.symm (s2.extBut _ _ D.i1z.symm z1))
    have ez : er ≠ z := fun x => by subst x; rw [z4] at ho; cases ho; simp at hc
    exact wpAny_setField_rec (s := { s with heap := g4 }) z4 (by simp) fun g5 _ s5 => hE g5 er (fun c o c1 c2 c3 c4 x => s5.extBut _ _ c1 (s4 _ _ c4 (s3.extBut _ _ c2 (s2.extBut _ _ c3 (s1.extBut _ _ c1 x))))) ⟨oe, s5.extBut _ _ ez ho, hc⟩
/-- one pair is drawn -/
theorem zip_draw {z TI TO i1 i2 l1 l2 : Addr} {i : Nat} {xs ys : Array Value} {x y : Value} {Q : Value → Shared → Prop} (D : ZipApart z TI TO i1 i2 l1 l2) (st : ZipAt s.heap z TI TO i1 i2 l1 l2 i)
    (m1 : s.heap.IsList l1 xs) (m2 : s.heap.IsList l2 ys) (gx : xs[i]? = some x) (gy : ys[i]? = some y)
    (hQ : ∀ h', ZipAt h' z TI TO i1 i2 l1 l2 (i + 1) → IsPair h' s.heap.objs.size x y → h'.objs.size = s.heap.objs.size + 1 →
      (∀ c o, c ≠ z → c ≠ TO → c ≠ i1 → c ≠ i2 → s.heap.get? c = some o → h'.get? c = some o) → Q (.ref s.heap.objs.size) { s with heap := h' }) :
    wpAny (model prog w) A (Builtin.SmallTypes.nextOf (.ref z)) Q E s := by
  obtain ⟨hz, pI, ⟨a, b, pO⟩, t1, t2⟩ := st
  have ty : s.TypeIs (.ref z) "zip" := by
    rcases hz with h | ⟨_, _, h⟩
    · exact ⟨_, h, rfl⟩
    · exact ⟨_, h, rfl⟩
  unfold Builtin.SmallTypes.nextOf
  refine wpAny_bind (wpAny_callSpecial?_slot (name := Str.ofString "__next__") ty F.slot_zip_next (wpAny_call_entry F.slot_zip_next ty F.entry_zip_next ?_ (F.args_zip_next_1 _)))
  have keepI : ∀ {h' : Heap}, (∀ c o, c ≠ z → c ≠ TO → c ≠ i1 → c ≠ i2 → s.heap.get? c = some o → h'.get? c = some o) → IsPair h' TI (.ref i1) (.ref i2) := fun k => k _ _ D.TIz D.TITO D.TIi1 D.TIi2 pI
  rcases hz with h | ⟨T, f, h⟩
  · refine zip_item_any D h (fun R k => ?_) pI pO t1 t2 m1 m2 gx gy fun h' b1 b2 b3 b4 b5 b6 b7 => wpAny_pure (hQ h' ⟨.inr ⟨_, _, b1⟩, keepI b7, ⟨_, _, b2⟩, b3, b4⟩ b5 b6 b7)
    unfold Builtin.SmallTypes.ownedTupleIsFree
    exact wpAny_bind (wpAny_field h rfl (x := .none) rfl (wpAny_pure k))
  · cases al : s.heap.get? T with
    | none => exact zip_item_any D h (fun R k => tuple_gone h al k) pI pO t1 t2 m1 m2 gx gy fun h' b1 b2 b3 b4 b5 b6 b7 => wpAny_pure (hQ h' ⟨.inr ⟨_, _, b1⟩, keepI b7, ⟨_, _, b2⟩, b3, b4⟩ b5 b6 b7)
    | some oT => exact zip_next_item_held D h al pI t1 t2 m1 m2 gx gy fun h' b1 b3 b4 b5 b6 b7 => wpAny_pure (hQ h' ⟨.inr ⟨_, _, b1⟩, keepI fun c o c1 _ c3 c4 e => b7 c o c1 c3 c4 e, ⟨_, _, b7 _ _ D.TOz D.TOi1 D.TOi2 pO⟩, b3, b4⟩ b5 b6 fun c o c1 _ c3 c4 e => b7 c o c1 c3 c4 e)
theorem zip_over {z TI TO i1 i2 l1 l2 : Addr} {i : Nat} {xs ys : Array Value} {Q : Value → Shared → Prop} (hh : A.handled = none) (D : ZipApart z TI TO i1 i2 l1 l2) (st : ZipAt s.heap z TI TO i1 i2 l1 l2 i)
    (m1 : s.heap.IsList l1 xs) (m2 : s.heap.IsList l2 ys) (ge : xs[i]? = none ∨ ys[i]? = none)
    (hE : ∀ h' e, (∀ c o, c ≠ z → c ≠ TO → c ≠ i1 → c ≠ i2 → s.heap.get? c = some o → h'.get? c = some o) → (∃ o, h'.get? e = some o ∧ o.cls = .type "StopIteration") → E (.ref e) { s with heap := h' }) :
    wpAny (model prog w) A (Builtin.SmallTypes.nextOf (.ref z)) Q E s := by
  obtain ⟨hz, pI, ⟨a, b, pO⟩, t1, t2⟩ := st
  have ty : s.TypeIs (.ref z) "zip" := by
    rcases hz with h | ⟨_, _, h⟩
    · exact ⟨_, h, rfl⟩
    · exact ⟨_, h, rfl⟩
  unfold Builtin.SmallTypes.nextOf
  refine wpAny_bind (wpAny_callSpecial?_slot (name := Str.ofString "__next__") ty F.slot_zip_next (wpAny_call_entry F.slot_zip_next ty F.entry_zip_next ?_ (F.args_zip_next_1 _)))
  rcases hz with h | ⟨T, f, h⟩
  · refine zip_end_any hh D h (fun R k => ?_) pI pO t1 t2 m1 m2 ge hE
    unfold Builtin.SmallTypes.ownedTupleIsFree
    exact wpAny_bind (wpAny_field h rfl (x := .none) rfl (wpAny_pure k))
  · cases al : s.heap.get? T with
    | none => exact zip_end_any hh D h (fun R k => tuple_gone h al k) pI pO t1 t2 m1 m2 ge hE
    | some oT => exact zip_next_end_held hh D h al pI t1 t2 m1 m2 ge fun h' e b1 b2 => hE h' e (fun c o c1 _ c3 c4 e => b1 c o c1 c3 c4 e) b2
/-- a turn of enumerate over anything that is drawn -/
theorem enum_turn {e it : Addr} {i : Nat} {old x : Value} {G : Heap → Prop} {Q : Option Value → Shared → Prop} (he : IsEnum s.heap e it (i : Nat) old)
    (draw : ∀ (B : Around) (E' : Value → Shared → Prop) (R : Value → Shared → Prop), (∀ h1, G h1 → IsEnum h1 e it (i : Nat) old → R x { s with heap := h1 }) → wpAny (model prog w) B (Builtin.SmallTypes.nextOf (.ref it)) R E' s)
    (hQ : ∀ h1 h', G h1 → IsEnumOut h' e it ((i : Int) + 1) x h1.objs.size → h'.get? h1.objs.size = some { cls := .type "tuple", data := .seq #[.int i s.toks, x] } → h'.objs.size = h1.objs.size + 1 →
      (∀ b o, b ≠ e → h1.get? b = some o → h'.get? b = some o) → Q (some (.ref h1.objs.size)) { s with heap := h', toks := s.toks + 1 }) :
    wpAny (model prog w) A (pyNext (.ref e)) Q E s := by
  have ty : s.TypeIs (.ref e) "enumerate" := ⟨_, he, rfl⟩
  unfold pyNext
  refine wpAny_bind (wpAny_attempt (wpAny_callSpecial?_slot (name := Str.ofString "__next__") ty F.slot_enumerate_next (wpAny_call_entry F.slot_enumerate_next ty F.entry_enumerate_next ?_ (F.args_enumerate_next_1 _))))
  show wpAny _ _ (field (.ref e) 2 >>= _) _ _ s
  refine wpAny_bind (wpAny_field he rfl (x := .ref it) rfl (wpAny_bind (draw _ _ _ fun h1 hG e1 => ?_)))
  show wpAny _ _ (field (.ref e) 3 >>= _) _ _ { s with heap := h1 }
  refine wpAny_bind (wpAny_field (s := { s with heap := h1 }) e1 rfl (x := rawInt i) rfl ?_)
  show wpAny _ _ (field (.ref e) 4 >>= _) _ _ { s with heap := h1 }
  refine wpAny_bind (wpAny_field (s := { s with heap := h1 }) e1 rfl (x := .none) rfl ?_)
  show wpAny _ _ (mkInt i >>= _) _ _ { s with heap := h1 }
  refine wpAny_bind (wpAny_mkInt ?_)
  show wpAny _ _ (setField (.ref e) 3 (rawInt ((i : Int) + 1)) >>= _) _ _ { s with heap := h1, toks := s.toks + 1 }
  refine wpAny_bind (wpAny_setField_rec (s := { s with heap := h1, toks := s.toks + 1 }) e1 (by simp) fun h2 e2 s2 => ?_)
  replace e2 : IsEnum h2 e it ((i : Int) + 1) old := e2
  show wpAny _ _ (setField (.ref e) 4 .none >>= _) _ _ { s with heap := h2, toks := s.toks + 1 }
  refine wpAny_bind (wpAny_setField_rec (s := { s with heap := h2, toks := s.toks + 1 }) e2 (by simp) fun h3 e3 s3 => ?_)
  replace e3 : IsEnum h3 e it ((i : Int) + 1) old := e3
  show wpAny _ _ (newTuple [.int i s.toks, x] >>= _) _ _ { s with heap := h3, toks := s.toks + 1 }
  refine wpAny_bind (wpAny_newTuple ?_)
  have e4 : IsEnum (h3.push { cls := .type "tuple", data := .seq #[.int i s.toks, x] }) e it ((i : Int) + 1) old := Heap.get?_push_of_some _ e3
  have t4 : (h3.push { cls := .type "tuple", data := .seq #[.int i s.toks, x] }).get? h3.objs.size = some { cls := .type "tuple", data := .seq #[.int i s.toks, x] } := Heap.get?_push_size _ rfl
  have n4 : (h3.push { cls := .type "tuple", data := .seq #[.int i s.toks, x] }).objs.size = h3.objs.size + 1 := Heap.size_push ..
  have k4 : ∀ b o, b ≠ e → h1.get? b = some o → (h3.push { cls := .type "tuple", data := .seq #[.int i s.toks, x] }).get? b = some o := fun b o hb q => Heap.get?_push_of_some _ (s3.extBut b o hb (s2.extBut b o hb q))
  have z3 : h3.objs.size = h1.objs.size := by rw [s3.1, s2.1]
  rw [z3] at t4 n4
  have le : e < h1.objs.size := Heap.lt_size e1
  show wpAny _ _ (Builtin.SmallTypes.ownedTupleIsFree (.ref e) >>= _) _ _ { s with heap := h3.push { cls := .type "tuple", data := .seq #[.int i s.toks, x] }, toks := s.toks + 1 }
  rw [z3]
  generalize h3.push { cls := .type "tuple", data := .seq #[.int i s.toks, x] } = h4 at e4 t4 n4 k4 ⊢
  refine wpAny_bind ?_
  unfold Builtin.SmallTypes.ownedTupleIsFree
  refine wpAny_bind (wpAny_field (s := { s with heap := h4, toks := s.toks + 1 }) e4 rfl (x := .none) rfl (wpAny_pure ?_))
  simp only [if_true]
  refine wpAny_bind (wpAny_rule (wpAny_bind (wpAny_field (s := { s with heap := h4, toks := s.toks + 1 }) e4 rfl (x := old) rfl ?_)))
  refine wpAny_bind (wpAny_setField_rec (s := { s with heap := h4, toks := s.toks + 1 }) e4 (by simp) fun h5 e5 s5 => ?_)
  replace e5 : IsEnum h5 e it ((i : Int) + 1) x := e5
  show wpAny _ _ (Builtin.SmallTypes.ownedTupleHandOut (.ref e) (.ref h1.objs.size) >>= _) _ _ { s with heap := h5, toks := s.toks + 1 }
  refine wpAny_bind ?_
  unfold Builtin.SmallTypes.ownedTupleHandOut
  refine wpAny_bind (wpAny_setField_rec (s := { s with heap := h5, toks := s.toks + 1 }) e5 (by simp) fun h6 e6 s6 => ?_)
  replace e6 : IsEnumOut h6 e it ((i : Int) + 1) x h1.objs.size := e6
  refine wpAny_setField_rec (s := { s with heap := h6, toks := s.toks + 1 }) e6 (by simp) fun h7 e7 s7 => ?_
  replace e7 : IsEnumOut h7 e it ((i : Int) + 1) x h1.objs.size := e7
  refine wpAny_bind (wpAny_letGo (wpAny_pure ⟨_, rfl, wpAny_pure (hQ h1 h7 hG e7 ?_ ?_ ?_)⟩))
  · exact s7.extBut _ _ (Nat.ne_of_gt le) (s6.extBut _ _ (Nat.ne_of_gt le) (s5.extBut _ _ (Nat.ne_of_gt le) t4))
  · rw [s7.1, s6.1, s5.1, n4]
  · exact fun b o hb q => s7.extBut b o hb (s6.extBut b o hb (s5.extBut b o hb (k4 b o hb q)))
theorem enum_over {e it : Addr} {i : Nat} {old : Value} {G : Heap → Prop} {Q : Option Value → Shared → Prop} (he : IsEnum s.heap e it (i : Nat) old)
    (draw : ∀ (B : Around) (E' : Value → Shared → Prop) (R : Value → Shared → Prop), B.handled = A.handled → (∀ h1 er, G h1 → (∃ o, h1.get? er = some o ∧ o.cls = .type "StopIteration") → E' (.ref er) { s with heap := h1 }) → wpAny (model prog w) B (Builtin.SmallTypes.nextOf (.ref it)) R E' s)
    (hQ : ∀ h1, G h1 → Q none { s with heap := h1 }) : wpAny (model prog w) A (pyNext (.ref e)) Q E s := by
  have ty : s.TypeIs (.ref e) "enumerate" := ⟨_, he, rfl⟩
  unfold pyNext
  refine wpAny_bind (wpAny_attempt (wpAny_callSpecial?_slot (name := Str.ofString "__next__") ty F.slot_enumerate_next (wpAny_call_entry F.slot_enumerate_next ty F.entry_enumerate_next ?_ (F.args_enumerate_next_1 _))))
  show wpAny _ _ (field (.ref e) 2 >>= _) _ _ s
  refine wpAny_bind (wpAny_field he rfl (x := .ref it) rfl (wpAny_bind (draw _ _ _ rfl fun h1 er hG hx => ?_)))
  obtain ⟨o, ho, hc⟩ := hx
  exact wpAny_bind (wpAny_isInstance (T := "StopIteration") (b := true) ⟨o, ho, hc⟩ isSubtype_stop (wpAny_pure (hQ h1 hG)))
end
/-- the lists at a and b as they stand at each turn, the items in new pairs, these behind their number -/
def Itez (K : PySem.W.Frag) (a b : Addr) : It where
  go := fun i H => ∃ (xs ys : List V) (x y : V), SqL K H a xs ∧ SqL K H b ys ∧ xs[i]? = some x ∧ ys[i]? = some y
  yld := fun i H v H' => ∃ (S T : Addr) (x y : V), v = .ref T ∧ H S = none ∧ upd H S (.tup [x, y]) T = none ∧ H' = upd (upd H S (.tup [x, y])) T (.tup [.int (i : Nat), .ref S]) ∧ (∀ xs, SqL K H a xs → xs[i]? = some x) ∧ ∀ ys, SqL K H b ys → ys[i]? = some y
  stop := fun i H => ∃ xs ys : List V, SqL K H a xs ∧ SqL K H b ys ∧ (xs.length ≤ i ∨ ys.length ≤ i)
theorem turn_ez {P : Program} {w : World} {K : PySem.W.Frag} {elts : List Expr} {kk : Nat} {tpos : Pos} {a b e z TI TO i1 i2 : Addr} (D : ZipApart z TI TO i1 i2 a b) (ne : e ∉ [z, TI, TO, i1, i2]) :
    Turn P w K (.Tuple elts kk tpos) (Itez K a b) [e, z, TI, TO, i1, i2] e fun i h => (∃ old, IsEnum h e z (i : Nat) old) ∧ ZipAt h z TI TO i1 i2 a b i where
  mem := List.mem_cons_self ..
  obj := fun i h st c hc => by
    obtain ⟨⟨old, he⟩, hz, pI, ⟨x, y, pO⟩, ⟨o1, e1, _, d1⟩, ⟨o2, e2, _, d2⟩⟩ := st
    simp only [List.mem_cons, List.not_mem_nil, or_false] at hc
    rcases hc with q | q | q | q | q | q
    · rw [q]; exact ⟨_, he, fun v q => nomatch q⟩
    · rw [q]
      rcases hz with h | ⟨_, _, h⟩
      · exact ⟨_, h, fun v q => nomatch q⟩
      · exact ⟨_, h, fun v q => nomatch q⟩
    · rw [q]; exact ⟨_, pI, fun v q => nomatch q⟩
    · rw [q]; exact ⟨_, pO, fun v q => nomatch q⟩
    · rw [q]; exact ⟨o1, e1, fun v q => by rw [d1] at q; cases q⟩
    · rw [q]; exact ⟨o2, e2, fun v q => by rw [d2] at q; cases q⟩
  keep := fun i h h' st k => by
    obtain ⟨⟨old, he⟩, hz, pI, ⟨x, y, pO⟩, h1, h2⟩ := st
    refine ⟨⟨old, k e (by simp) _ he⟩, ?_, k TI (by simp) _ pI, ⟨x, y, k TO (by simp) _ pO⟩, h1.at fun o q => k i1 (by simp) o q, h2.at fun o q => k i2 (by simp) o q⟩
    rcases hz with h | ⟨T, f, h⟩
    · exact .inl (k z (by simp) _ h)
    · exact .inr ⟨T, f, k z (by simp) _ h⟩
  item := by
    intro X hP hw hK hc i pins s σ H E I hf st hg
    subst hP hw hK
    obtain ⟨⟨old, he⟩, zt⟩ := st
    obtain ⟨xs, ys, x, y, hqx, hqy, hx, hy⟩ := hg
    obtain ⟨its, rv, p, _⟩ := I.list hqx
    obtain ⟨its2, rv2, p2, _⟩ := I.list hqy
    obtain ⟨u, hu, ru⟩ := rv.get hx
    obtain ⟨u2, hu2, ru2⟩ := rv2.get hy
    have nez : e ≠ z := fun q => ne (by simp [q])
    have neO : e ≠ TO := fun q => ne (by simp [q])
    have ne1 : e ≠ i1 := fun q => ne (by simp [q])
    have ne2 : e ≠ i2 := fun q => ne (by simp [q])
    have lt : ∀ {c o}, s.heap.get? c = some o → c < s.heap.objs.size := fun q => Heap.lt_size q
    have fpl : ∀ c ∈ [e, z, TI, TO, i1, i2], c < s.heap.objs.size := fun c hcm => by
      obtain ⟨hz, pI, ⟨x, y, pO⟩, ⟨_, e1, _⟩, ⟨_, e2, _⟩⟩ := zt
      simp only [List.mem_cons, List.not_mem_nil, or_false] at hcm
      rcases hcm with q | q | q | q | q | q
      · rw [q]; exact lt he
      · rw [q]
        rcases hz with h | ⟨_, _, h⟩
        · exact lt h
        · exact lt h
      · rw [q]; exact lt pI
      · rw [q]; exact lt pO
      · rw [q]; exact lt e1
      · rw [q]; exact lt e2
    refine enum_turn (x := .ref s.heap.objs.size) (G := fun h1 => ZipAt h1 z TI TO i1 i2 a b (i + 1) ∧ IsPair h1 s.heap.objs.size u u2 ∧ h1.objs.size = s.heap.objs.size + 1 ∧ ∀ c o, c ≠ z → c ≠ TO → c ≠ i1 → c ≠ i2 → s.heap.get? c = some o → h1.get? c = some o) he
      (fun B E' R k => zip_draw D zt p.isList p2.isList (x := u) (y := u2) (by simpa using hu) (by simpa using hu2) fun h1 g1 g2 g3 g4 => k h1 ⟨g1, g2, g3, g4⟩ (g4 e _ nez neO ne1 ne2 he)) fun h1 h' hG ho hT hsz hk => ⟨_, rfl, ?_⟩
    obtain ⟨g1, g2, g3, g4⟩ := hG
    refine wpAny_letOwnedTupleGo_enum (s := { s with heap := h', toks := s.toks + 1 }) ho fun h'' he'' sb => ?_
    have kk2 : ∀ c o, c ≠ e → h1.get? c = some o → h''.get? c = some o := fun c o hne q => (sb.2 c hne).trans (hk c o hne q)
    have I1 : Inv X pins σ (upd H s.heap.objs.size (.tup [x, y])) { s with heap := h1 } :=
      I.turnedNew (t' := s.toks) (ch := [z, TO, i1, i2]) (fun c o hb q => g4 c o (fun q' => hb (by simp [q'])) (fun q' => hb (by simp [q'])) (fun q' => hb (by simp [q'])) (fun q' => hb (by simp [q'])) q) (fun c hcm => hf c (by
        simp only [List.mem_cons, List.not_mem_nil, or_false] at hcm ⊢
        rcases hcm with q | q | q | q <;> simp [q])) (Nat.le_refl _)
        ⟨by show 2 ≤ sizeLine; decide, [u, u2], .cons ru (.cons ru2 .nil), ⟨_, g2, rfl, _, rfl⟩⟩
    have nS : H s.heap.objs.size = none := I.hok.fresh (Nat.le_refl _)
    have hel : e < s.heap.objs.size := lt he
    have fe := hf e (List.mem_cons_self ..)
    have T2 : h''.get? h1.objs.size = some { cls := .type "tuple", data := .seq #[.int i s.toks, .ref s.heap.objs.size] } := (sb.2 _ (Nat.ne_of_gt (Nat.lt_of_lt_of_le hel (by rw [g3]; exact Nat.le_succ _)))).trans hT
    have I2 : Inv X pins σ (upd (upd H s.heap.objs.size (.tup [x, y])) h1.objs.size (.tup [.int (i : Nat), .ref s.heap.objs.size])) { s with heap := h'', toks := s.toks + 1 } :=
      I1.turnedNew (t' := s.toks + 1) (ch := [e]) (fun c o hb q => kk2 c o (by simpa using hb) q) (fun c hcm => by
        have hce : c = e := by simpa using hcm
        subst hce
        exact ⟨by rw [upd_ne (Nat.ne_of_lt hel)]; exact fe.1, fe.2⟩) (Nat.le_refl _)
        ⟨by show 2 ≤ sizeLine; decide, [.int i s.toks, .ref s.heap.objs.size], .cons ⟨s.toks, rfl⟩ (.cons rfl .nil), ⟨_, T2, rfl, _, rfl⟩⟩
    refine ⟨.ref h1.objs.size, _, I2, rfl, ⟨s.heap.objs.size, h1.objs.size, x, y, rfl, nS, I1.hok.fresh (Nat.le_refl _), rfl, fun l hl => by rw [I.list_inj hl hqx]; exact hx, fun l hl => by rw [I.list_inj hl hqy]; exact hy⟩, ⟨⟨_, he''⟩, ?_⟩, fun c hcm => ?_⟩
    · obtain ⟨hz, pI, ⟨x', y', pO⟩, h1', h2'⟩ := g1
      have nTI : TI ≠ e := fun q => ne (by simp [q])
      refine ⟨?_, kk2 _ _ nTI pI, ⟨x', y', kk2 _ _ neO.symm pO⟩, h1'.at fun o q => kk2 i1 o ne1.symm q, h2'.at fun o q => kk2 i2 o ne2.symm q⟩
      rcases hz with h | ⟨T, f, h⟩
      · exact .inl (kk2 z _ nez.symm h)
      · exact .inr ⟨T, f, kk2 z _ nez.symm h⟩
    · have hlt := fpl c hcm
      rw [upd_ne (Nat.ne_of_lt (Nat.lt_of_lt_of_le hlt (by rw [g3]; exact Nat.le_succ _))), upd_ne (Nat.ne_of_lt hlt)]
      exact (hf c hcm).1
  done := by
    intro X hP hw hK hc i pins s σ H E I hf st hg
    subst hP hw hK
    obtain ⟨⟨old, he⟩, zt⟩ := st
    obtain ⟨xs, ys, hqx, hqy, hend⟩ := hg
    obtain ⟨its, rv, p, _⟩ := I.list hqx
    obtain ⟨its2, rv2, p2, _⟩ := I.list hqy
    have l1 := rv.length
    have l2 := rv2.length
    have ge : its.toArray[i]? = none ∨ its2.toArray[i]? = none := by
      rcases hend with q | q
      · exact .inl (by simp; omega)
      · exact .inr (by simp; omega)
    refine enum_over (G := fun h1 => ∀ c o, c ≠ z → c ≠ TO → c ≠ i1 → c ≠ i2 → s.heap.get? c = some o → h1.get? c = some o) he (fun B E' R hB k => zip_over (hB.trans (I.ok.hd hc)) D zt p.isList p2.isList ge fun h' er g1 g2 => k h' er g1 g2) fun h1 g4 => ⟨rfl, ?_⟩
    exact I.turnedL (t' := s.toks) (ch := [z, TO, i1, i2]) (fun c o hb q => g4 c o (fun q' => hb (by simp [q'])) (fun q' => hb (by simp [q'])) (fun q' => hb (by simp [q'])) (fun q' => hb (by simp [q'])) q) (fun c hcm => hf c (by
        simp only [List.mem_cons, List.not_mem_nil, or_false] at hcm ⊢
        rcases hcm with q | q | q | q <;> simp [q]))
  self := fun A i s Q E st h => let ⟨⟨_, he⟩, _⟩ := st; wpAny_pyIter_enum he h
/-- enumerate(zip(..)) begins -/
theorem zip_iter_any {prog : Program} {w : World} {A : Around} {E : Value → Shared → Prop} {s : Shared} {z TI TO : Addr} {Q : Value → Shared → Prop} (hz : IsZip s.heap z TI TO .none) (h : Q (.ref z) s) : wpAny (model prog w) A (pyIter (.ref z)) Q E s := wpAny_pyIter_zip hz h
theorem meets_enumZ (z TI TO : Addr) : Meets (Builtin.«enumerate.__new__» { pos := [Value.type "enumerate", .ref z] }) fun _ R s =>
    IsZip s.heap z TI TO .none ∧ R (Except.ok (Flow.ret (Value.ref s.heap.objs.size))) { heap := s.heap.push { cls := Value.type "enumerate", data := Data.fields #[Value.none, Value.bool false, Value.ref z, rawInt 0, Value.none, Value.none] }, gens := s.gens, drawn := s.drawn, toks := s.toks, os := s.os } := by
  intro prog w A R s ⟨h1, h2⟩
  unfold Builtin.«enumerate.__new__»
  rw [newClass_enum]
  refine wpAny_bind (wpAny_pure ?_)
  simp only [beq_self_eq_true, if_true]
  have key : ∀ s' : Shared, s' = s → wpAny (model prog w) A.in1 (do
      let __do_lift ← pyIter (.ref z)
      let __do_lift ← Builtin.SmallTypes.newRecord (Value.type "enumerate") (Builtin.SmallTypes.ownedTupleFields ++ [__do_lift, rawInt 0, Value.none, Value.none])
      ret __do_lift) (fun fin s' => match fin with
          | Fin.done f => R (Except.ok f) s'
          | Fin.again c' => c'.quiet = true ∧ codeAny (model prog w) A c' R s') (fun e s' => R (Except.error e) s') s' := by
    rintro s' rfl
    refine wpAny_bind (zip_iter_any h1 (wpAny_bind ?_))
    refine wpAny_newObj_type (T := "enumerate") (data := Data.fields #[Value.none, Value.bool false, Value.ref z, rawInt 0, Value.none, Value.none]) (dict := none) ?_
    exact wpAny_pure h2
  refine wpAny_bind ?_
  unfold Builtin.SmallTypes.calledThroughType
  refine wpAny_bind (wpAny_stack fun st _ _ _ => ?_)
  refine wpAny_pure ?_
  exact iteInduction (motive := fun m => wpAny (model prog w) A.in1 m _ _ s) (fun _ => key s rfl) (fun _ => key s rfl)
theorem call_enumZ {prog : Program} {w : World} {A : Around} {E : Value → Shared → Prop} {s : Shared} {z TI TO : Addr} {Q : Value → Shared → Prop} (h : IsZip s.heap z TI TO .none)
    (k : ∀ h' : Heap, IsEnum h' s.heap.objs.size z 0 Value.none → (∀ (b : Addr) (o : Obj), s.heap.get? b = some o → h'.get? b = some o) → Q (.ref s.heap.objs.size) { s with heap := h' }) : wpAny (model prog w) A (call (Value.type "enumerate") [.ref z]) Q E s := by
  refine callType_new F.called_enumerate (by decide) (F.typeCall_enumerate_1 (.ref z)) (F.newCall_enumerate_1 (.ref z)) (fun obj => ao1 obj (.ref z)) F.entry_enumerate_new (meets_enumZ z TI TO) ⟨h, ?_⟩
  have g2 : (s.heap.push { cls := Value.type "enumerate", data := Data.fields #[Value.none, Value.bool false, Value.ref z, rawInt 0, Value.none, Value.none] }).get? s.heap.objs.size = some { cls := Value.type "enumerate", data := Data.fields #[Value.none, Value.bool false, Value.ref z, rawInt 0, Value.none, Value.none] } := Heap.get?_push_size _ rfl
  exact ⟨⟨_, g2, rfl⟩, k _ g2 fun b u q => Heap.get?_push_of_some _ q⟩
def iEnumZip (K : PySem.W.Frag) (ta : TA) : TI := fun σ H R => ta σ H fun vs H1 => ∃ a b xs ys, vs = [.ref a, .ref b] ∧ SqL K H1 a xs ∧ SqL K H1 b ys ∧ R (Itez K a b) H1
theorem pi_enumZip {X : Cx} {e e2 : Expr} {ta : TA} {p pos p2 pos2 tpos : Pos} {elts : List Expr} {kk : Nat} (hg : Gl X "enumerate") (hm : X.mg "enumerate" = none) (hgz : Gl X "zip") (hmz : X.mg "zip" = none) (ha : PA X [e, e2] ta)
    (ho : starEach [.Call (.Name "zip" p2) [e, e2] [] pos2] X.env = [(false, eval (.Call (.Name "zip" p2) [e, e2] [] pos2) X.env)] := by rfl)
    (hs : starEach [e, e2] X.env = (false, eval e X.env) :: starEach [e2] X.env := by rfl) (hpl : (backTo pos2 (starEach [e2] X.env)).any (·.1) = false := by rfl) :
    PI X (.Tuple elts kk tpos) (.Call (.Name "enumerate" p) [.Call (.Name "zip" p2) [e, e2] [] pos2] [] pos) (iEnumZip X.K ta) := by
  refine ⟨fun pins s σ H R I h => ?_⟩
  refine wpAny_Call_Name_kw (ld_blt I hg hm boot_enumerate ?_)
  rw [ho]
  refine callWith_type1 (Call_ (ld_blt I hgz hmz PyProof.Rows.boot_zip (PyProof.Rows.callWith_type1 (thn (ha.run pos2 pins s σ H _ I h) fun us s1 ⟨vs, H1, I1, r1, q1⟩ => ?_) hs hpl)))
  obtain ⟨a, b, xs, ys, ex, hqx, hqy, q⟩ := q1
  subst ex
  cases r1 with
  | cons r rr =>
    cases rr with
    | cons r' rr =>
      cases rr
      cases r
      cases r'
      obtain ⟨its, rv, p1, _⟩ := I1.list hqx
      obtain ⟨its2, rv2, p2, _⟩ := I1.list hqy
      have la : a < s1.heap.objs.size := p1.lt
      have lb : b < s1.heap.objs.size := p2.lt
      refine call_zip_2 p1.isList p2.isList fun h1 hz hTI hTO t1 t2 hsz hk => ?_
      refine call_enumZ (s := { s1 with heap := h1 }) hz fun h' hE hk2 => wpAny_pyIter_enum hE ?_
      have I2 : Inv X pins σ H1 { s1 with heap := h' } := I1.kept (t' := s1.toks) fun c o q => hk2 c o (hk c o q)
      have es : ({ s1 with heap := h1 } : Shared).heap.objs.size = s1.heap.objs.size + 5 := hsz
      rw [es] at hE ⊢
      refine ⟨s1.heap.objs.size + 5, [s1.heap.objs.size + 5, s1.heap.objs.size + 4, s1.heap.objs.size + 2, s1.heap.objs.size + 3, s1.heap.objs.size, s1.heap.objs.size + 1], _, _, H1, rfl, I2, turn_ez (PySem.W.ktu_apart s1.heap.objs.size a b la lb) ?_, ⟨⟨_, hE⟩, .inl (hk2 _ _ hz), hk2 _ _ hTI, ⟨_, _, hk2 _ _ hTO⟩, t1.at fun o q => hk2 _ o q, t2.at fun o q => hk2 _ o q⟩, fun c hcm => ?_, q⟩
      · have five : ∀ n : Nat, n + 5 ∉ [n + 4, n + 2, n + 3, n, n + 1] := fun n => by simp
        exact five _
      · have all : ∀ n c : Nat, c ∈ [n + 5, n + 4, n + 2, n + 3, n, n + 1] → n ≤ c := fun n c h => by
          simp only [List.mem_cons, List.not_mem_nil, or_false] at h
          omega
        have hle := all _ _ hcm
        exact I1.fpOk hle (I1.hok.fresh hle)
theorem walk_ez {K : PySem.W.Frag} {a b : Addr} {xs ys : List V} (hl : xs.length = ys.length) : Walk (Itez K a b) xs.length (fun H => SqL K H a xs ∧ SqL K H b ys) (fun i H v H' => ∃ (S T : Addr) (x y : V), v = .ref T ∧ H S = none ∧ upd H S (.tup [x, y]) T = none ∧ H' = upd (upd H S (.tup [x, y])) T (.tup [.int (i : Nat), .ref S]) ∧ xs[i]? = some x ∧ ys[i]? = some y) := by
  refine ⟨fun i H hi h => ?_, fun H h => ⟨xs, ys, h.1, h.2, .inl (Nat.le_refl _)⟩, fun i H x H' hi h hy => ?_⟩
  · have h2 : i < ys.length := by omega
    exact ⟨xs, ys, xs[i], ys[i], h.1, h.2, List.getElem?_eq_getElem hi, List.getElem?_eq_getElem h2⟩
  · obtain ⟨S, T, v, u, rfl, hn, hn2, rfl, hx, hy⟩ := hy
    exact ⟨S, T, v, u, rfl, hn, hn2, rfl, hx xs h.1, hy ys h.2⟩
end EnT

namespace EnT
open PySem PySem.Spec PyProof.Rows L2
/-! ### xs[a:c] = ys -/
def gSl (to ta tc : TE) : TG := fun v σ H Q => to σ H fun o H1 => tPart ta σ H1 fun w H2 => ∃ i, w = some i ∧ tPart tc σ H2 fun w2 H3 => ∃ j, w2 = some j ∧ ∃ (l b : Addr) (xs ys : List V),
  o = .ref l ∧ v = .ref b ∧ H3 l = some (.lst xs) ∧ H3 b = some (.lst ys) ∧ l ≠ b ∧ 0 ≤ i ∧ i ≤ j ∧ j ≤ xs.length ∧ xs.length + ys.length ≤ sizeLine ∧ Q σ (upd H3 l (.lst (xs.take i.toNat ++ ys ++ xs.drop j.toNat)))
theorem pg_slice {X : Cx} {o a c : Expr} {to ta tc : TE} {p2 pos : Pos} (ho : PE X o to) (h1 : PE X a ta) (h2 : PE X c tc)
    (ha : ∀ v, assign (.Subscript o (.Slice (some a) (some c) none p2) pos) X.env v = (do
      let ov ← holding [v] (eval o X.env)
      let iv ← holding [v, ov] (eval (.Slice (some a) (some c) none p2) X.env)
      standAt pos
      holding [v, ov, iv] (setItem ov iv v)
      release [iv, v, ov] []) := by intro _; rfl) : PG X (.Subscript o (.Slice (some a) (some c) none p2) pos) (gSl to ta tc) := by
  refine ⟨fun pins s σ H v u Q I r h => ?_⟩
  rw [ha]
  refine wpAny_bind (wpAny_holding (thn (ho.run pins s σ H _ I h) fun ov s1 ⟨x, H1, I1, r1, q1⟩ => ?_))
  refine wpAny_bind (wpAny_holding (wpAny_Slice (thn ((po_some h1).run pins s1 σ H1 _ I1 q1) fun vl s2 ⟨w, H2, I2, pl, i, ew, q2⟩ => ?_)))
  subst ew
  refine thn ((po_some h2).run pins s2 σ H2 _ I2 q2) fun vu s3 ⟨w, H3, I3, pu, j, ew, l, b, xs, ys, ex, ev, hl, hb, hne, h0, hij, hj, hz, q⟩ => ?_
  subst ew ex ev
  cases r1
  cases r
  rw [evalPart_none]
  refine wpAny_pure ?_
  have I4 : Inv X pins σ H3 { s3 with heap := s3.heap.push { cls := .type "slice", data := .fields #[vl, vu, .none] } } := I3.kept (t' := s3.toks) fun b ob q => Heap.get?_push_of_some _ q
  refine wpAny_bind (wpAny_standAt (wpAny_bind (wpAny_holding ?_)))
  have rl : RelV (.int i) vl := by cases pl with | int _ t => exact ⟨t, rfl⟩
  have ru : RelV (.int j) vu := by cases pu with | int _ t => exact ⟨t, rfl⟩
  exact set_slice I4 hl hb hne (Heap.IsSliceOf.new ..) rl ru h0 hij hj hz fun s' I5 => wpAny_release ⟨σ, _, I5, q⟩
end EnT

namespace TGK
open TG
open PySem PySem.Spec PyProof.Rows L2 Gx EnT
/-! ### texts and rows that are cut and joined -/
theorem same_rf (H : Hp) : Same H H := fun _ _ e => e
theorem same_tr {H H1 H2 : Hp} (x : Same H H1) (y : Same H1 H2) : Same H H2 := fun b u e => y b u (x b u e)
def zT (z : Str) (k : Nat) : Str := cutS z none (some (k : Int))
def zD (z : Str) (k : Nat) : Str := cutS z (some (k : Int)) none
theorem cl_zT (z : Str) (k : Nat) : cl (zT z k) = (cl z).take k := by
  obtain ⟨⟨l⟩⟩ := z
  unfold zT cutS
  simp only [cl, Str.length]
  rw [HT.sIx_none, HT.sIx_nat]
  simp
theorem cl_zD (z : Str) (k : Nat) : cl (zD z k) = (cl z).drop k := by
  obtain ⟨⟨l⟩⟩ := z
  unfold zD cutS
  simp only [cl, Str.length]
  rw [HT.sIx_none, HT.sIx_nat]
  simp only [List.size_toArray]
  rw [List.take_of_length_le (by rw [List.length_drop]; omega)]
  by_cases h : k ≤ l.length
  · rw [Nat.min_eq_left h]
  · rw [Nat.min_eq_right (by omega), List.drop_eq_nil_of_le (Nat.le_refl _), List.drop_eq_nil_of_le (by omega)]
theorem len_clz (z : Str) : z.length = (cl z).length := by
  show z.cps.size = z.cps.toList.length
  simp
theorem len_zT {z : Str} {k : Nat} : (zT z k).length = min k z.length := by rw [len_clz, cl_zT, List.length_take, ← len_clz]
theorem len_zD {z : Str} {k : Nat} : (zD z k).length = z.length - k := by rw [len_clz, cl_zD, List.length_drop, ← len_clz]
theorem len_zz (a b : Str) : (a ++ b).length = a.length + b.length := by rw [len_clz, cl_app, List.length_append, ← len_clz, ← len_clz]
/-- signs all good, at most so many -/
structure Sgs (z : Str) (m : Nat) : Prop where
  len : z.length ≤ m
  sg : ∀ c ∈ cl z, SgOk c
theorem Sgs.cell {z : Str} (h : Sgs z 10) : CellOk z := ⟨h.len, h.sg⟩
theorem _root_.TG.CellOk.sgs {z : Str} (h : CellOk z) : Sgs z 10 := ⟨h.len, h.sg⟩
theorem Sgs.tk {z : Str} {m k : Nat} (h : Sgs z m) : Sgs (zT z k) m := ⟨by rw [len_zT]; have := h.len; omega, fun c hc => h.sg c (by rw [cl_zT] at hc; exact List.mem_of_mem_take hc)⟩
theorem Sgs.dr {z : Str} {m k : Nat} (h : Sgs z m) : Sgs (zD z k) m := ⟨by rw [len_zD]; have := h.len; omega, fun c hc => h.sg c (by rw [cl_zD] at hc; exact List.mem_of_mem_drop hc)⟩
theorem Sgs.app {a b : Str} {m n : Nat} (h : Sgs a m) (h2 : Sgs b n) : Sgs (a ++ b) (m + n) := ⟨by rw [len_zz]; have := h.len; have := h2.len; omega, fun c hc => by
  rw [cl_app] at hc
  rcases List.mem_append.mp hc with q | q
  · exact h.sg c q
  · exact h2.sg c q⟩
theorem Sgs.mono {z : Str} {m n : Nat} (h : Sgs z m) (hn : m ≤ n) : Sgs z n := ⟨Nat.le_trans h.len hn, h.sg⟩
/-- a row that may be too long, its cells too -/
structure RowL (r : List Str) (n m : Nat) : Prop where
  pos : 1 ≤ r.length
  len : r.length ≤ n
  cells : ∀ z ∈ r, Sgs z m
theorem _root_.TG.RowOk.loose {r : List Str} (h : RowOk r) : RowL r 6 10 := ⟨h.pos, h.len, fun z hz => (h.cells z hz).sgs⟩
theorem RowL.mono {r : List Str} {n m n' m' : Nat} (h : RowL r n m) (h1 : n ≤ n') (h2 : m ≤ m') : RowL r n' m' := ⟨h.pos, Nat.le_trans h.len h1, fun z hz => (h.cells z hz).mono h2⟩
theorem RowL.ok {r : List Str} {n m : Nat} (h : RowL r n m) (h1 : r.length ≤ 6) (h2 : ∀ z ∈ r, z.length ≤ 10) : RowOk r := ⟨h.pos, h1, fun z hz => ⟨h2 z hz, (h.cells z hz).sg⟩⟩
def fitR (r : List Str) : Bool := decide (1 ≤ r.length ∧ r.length ≤ 6) && r.all fun z => decide (z.length ≤ 10)
theorem RowL.fit {r : List Str} {n m : Nat} (h : RowL r n m) : fitR r = true ↔ RowOk r := by
  unfold fitR
  rw [Bool.and_eq_true, decide_eq_true_iff, List.all_eq_true]
  constructor
  · rintro ⟨⟨_, h1⟩, h2⟩
    exact h.ok h1 fun z hz => of_decide_eq_true (h2 z hz)
  · intro o
    exact ⟨⟨o.pos, o.len⟩, fun z hz => decide_eq_true (o.cells z hz).len⟩
def halvA (r : List Str) (c k : Nat) : List Str := r.take c ++ [zT (r.getD c nilS) k]
def halvB (r : List Str) (c k : Nat) : List Str := zD (r.getD c nilS) k :: r.drop (c + 1)
def joinR (a b : List Str) : List Str := a.dropLast ++ (a.getLast?.getD nilS ++ b.headD nilS) :: b.tail
/-- a row without its first sign, or tab; none, where nothing is there -/
def lessR (r : List Str) : Option (List Str) := if r.headD nilS ≠ nilS then some (zD (r.headD nilS) 1 :: r.tail) else if r.length = 1 then none else some r.tail
theorem getD_mem {r : List Str} {c : Nat} (h : c < r.length) : r.getD c nilS ∈ r := by
  rw [List.getD_eq_getElem?_getD, List.getElem?_eq_getElem h]
  exact List.getElem_mem h
theorem halvA_l {r : List Str} {n m c k : Nat} (h : RowL r n m) (hc : c < r.length) : RowL (halvA r c k) n m := by
  unfold halvA
  refine ⟨by simp, ?_, fun z hz => ?_⟩
  · rw [List.length_append, List.length_take, List.length_singleton]
    have := h.len
    omega
  · rcases List.mem_append.mp hz with q | q
    · exact h.cells z (List.mem_of_mem_take q)
    · rw [List.mem_singleton.mp q]
      exact (h.cells _ (getD_mem hc)).tk
theorem halvB_l {r : List Str} {n m c k : Nat} (h : RowL r n m) (hc : c < r.length) : RowL (halvB r c k) n m := by
  unfold halvB
  refine ⟨by simp, ?_, fun z hz => ?_⟩
  · rw [List.length_cons, List.length_drop]
    have := h.len
    omega
  · rcases List.mem_cons.mp hz with q | q
    · rw [q]
      exact (h.cells _ (getD_mem hc)).dr
    · exact h.cells z (List.mem_of_mem_drop q)
theorem last_mem {a : List Str} (h : 1 ≤ a.length) : a.getLast?.getD nilS ∈ a := by
  cases e : a.getLast? with
  | none => rw [List.getLast?_eq_none_iff] at e; rw [e] at h; simp at h
  | some z => exact List.mem_of_getLast? e
theorem head_mem {a : List Str} (h : 1 ≤ a.length) : a.headD nilS ∈ a := by
  cases a with
  | nil => simp at h
  | cons z a => exact List.mem_cons_self ..
theorem joinR_l {a b : List Str} {n m n' m' : Nat} (h : RowL a n m) (h2 : RowL b n' m') : RowL (joinR a b) (n + n' - 1) (m + m') := by
  unfold joinR
  have := h.pos
  have := h2.pos
  refine ⟨by rw [List.length_append, List.length_cons]; omega, ?_, fun z hz => ?_⟩
  · rw [List.length_append, List.length_cons, List.length_dropLast, List.length_tail]
    have := h.len
    have := h2.len
    omega
  · rcases List.mem_append.mp hz with q | q
    · exact (h.cells z (List.dropLast_subset a q)).mono (Nat.le_add_right _ _)
    · rcases List.mem_cons.mp q with q | q
      · rw [q]
        exact (h.cells _ (last_mem h.pos)).app (h2.cells _ (head_mem h2.pos))
      · exact (h2.cells z (List.mem_of_mem_tail q)).mono (Nat.le_add_left _ _)
theorem lessR_l {r r' : List Str} {n m : Nat} (h : RowL r n m) (e : lessR r = some r') : RowL r' n m := by
  have hp := h.pos
  unfold lessR at e
  split at e
  · cases e
    refine ⟨by simp, by rw [List.length_cons, List.length_tail]; have := h.len; omega, fun z hz => ?_⟩
    rcases List.mem_cons.mp hz with q | q
    · rw [q]
      exact (h.cells _ (head_mem h.pos)).dr
    · exact h.cells z (List.mem_of_mem_tail q)
  · split at e
    · cases e
    · cases e
      exact ⟨by rw [List.length_tail]; omega, by rw [List.length_tail]; have := h.len; omega, fun z hz => h.cells z (List.mem_of_mem_tail hz)⟩
/-! ### tuples of texts: sums and slices -/
def cutL {α : Type} (xs : List α) (lo hi : Option Int) : List α := (xs.drop (HT.sIx xs.length 0 lo)).take (HT.sIx xs.length xs.length hi - HT.sIx xs.length 0 lo)
theorem cutV_map {α : Type} (g : α → V) (xs : List α) (lo hi : Option Int) : cutV (xs.map g) lo hi = (cutL xs lo hi).map g := by
  unfold cutV cutL
  rw [List.length_map, ← List.map_drop, ← List.map_take]
theorem cutL_to {α : Type} (xs : List α) (k : Nat) : cutL xs none (some (k : Int)) = xs.take k := by
  unfold cutL
  rw [HT.sIx_none, HT.sIx_nat, List.drop_zero, Nat.sub_zero]
  by_cases h : k ≤ xs.length
  · rw [Nat.min_eq_left h]
  · rw [Nat.min_eq_right (by omega), List.take_of_length_le (by omega), List.take_of_length_le (by omega)]
theorem cutL_from {α : Type} (xs : List α) (k : Nat) : cutL xs (some (k : Int)) none = xs.drop k := by
  unfold cutL
  rw [HT.sIx_none, HT.sIx_nat, List.take_of_length_le (by rw [List.length_drop]; omega)]
  by_cases h : k ≤ xs.length
  · rw [Nat.min_eq_left h]
  · rw [Nat.min_eq_right (by omega), List.drop_eq_nil_of_le (Nat.le_refl _), List.drop_eq_nil_of_le (by omega)]
theorem cutL_mid {α : Type} {xs : List α} {b e : Nat} (h1 : b ≤ e) (h2 : e ≤ xs.length) : cutL xs (some (b : Int)) (some (e : Int)) = (xs.drop b).take (e - b) := by
  unfold cutL
  rw [HT.sIx_nat, HT.sIx_nat, Nat.min_eq_left h2, Nat.min_eq_left (Nat.le_trans h1 h2)]
theorem cutL_last {α : Type} (xs : List α) (h : 1 ≤ xs.length) : cutL xs none (some (-1)) = xs.dropLast := by
  unfold cutL
  have e : HT.sIx xs.length xs.length (some (-1)) = xs.length - 1 := by
    unfold HT.sIx
    simp only
    rw [if_pos (by decide)]
    omega
  have e0 : HT.sIx xs.length 0 none = 0 := rfl
  rw [e0, e, List.drop_zero, Nat.sub_zero]
  exact (List.dropLast_eq_take ..).symm
section
variable {K : PySem.W.Frag} {H : Hp} {a b : Addr} {xs ys : List Str} {Q : VK}
theorem cat_rows (ha : SqT K H a (sV xs)) (hb : SqT K H b (sV ys)) (hz : xs.length + ys.length ≤ 1000) (k : ∀ (p : Addr) (H' : Hp), Same H H' → SqT K H' p (sV (xs ++ ys)) → Q (.ref p) H') : rCatA K (.ref a) (.ref b) H Q := by
  have szl : (1000 : Nat) < sizeLine := by decide
  refine ⟨a, b, _, _, rfl, rfl, ha, hb, by rw [List.length_map, List.length_map]; omega, fun e => ?_, fun _ e => ?_, fun _ _ p np => ?_⟩
  · have e' : xs = [] := List.map_eq_nil_iff.mp e
    subst e'
    exact k b H (same_rf H) hb
  · have e' : ys = [] := List.map_eq_nil_iff.mp e
    subst e'
    exact k a H (same_rf H) (by rw [List.append_nil]; exact ha)
  · refine k p _ (same_new np) (SqT.of ?_)
    rw [upd_same, ← List.map_append]
theorem sl_rows {lo hi : Option Int} (ha : SqT K H a (sV xs)) (k : ∀ (p : Addr) (H' : Hp), Same H H' → SqT K H' p (sV (cutL xs lo hi)) → Q (.ref p) H') : rSlA K (.ref a) lo hi H Q := by
  refine ⟨a, _, rfl, ha, fun e => ?_, fun _ p np => k p _ (same_new np) (SqT.of ?_)⟩
  · refine k a H (same_rf H) ?_
    have e2 := cutV_map V.str xs lo hi
    unfold cutV at e2
    rw [e.1, e.2, List.drop_zero, Nat.sub_zero, List.take_of_length_le (Nat.le_refl _)] at e2
    show SqT K H a ((cutL xs lo hi).map V.str)
    rw [← e2]
    exact ha
  · rw [upd_same, cutV_map]
theorem atZ_last (h : 1 ≤ xs.length) : atI (sV xs) (-1) = some (.str (xs.getLast?.getD nilS)) := by
  refine atm1 (n := xs.length - 1) (by rw [List.length_map]; omega) ?_
  rw [List.getElem?_map, ← List.getLast?_eq_getElem?]
  cases e : xs.getLast? with
  | none => rw [List.getLast?_eq_none_iff] at e; rw [e] at h; simp at h
  | some z => rfl
theorem atZ_head (h : 1 ≤ xs.length) : atI (sV xs) 0 = some (.str (xs.headD nilS)) := by
  cases xs with
  | nil => simp at h
  | cons z xs => exact atI_nat (j := 0) rfl
theorem atZ {c : Nat} (h : c < xs.length) : atI (sV xs) (c : Int) = some (.str (xs.getD c nilS)) := by
  refine atI_nat ?_
  rw [List.getElem?_map, List.getD_eq_getElem?_getD, List.getElem?_eq_getElem h]
  rfl
end
end TGK

namespace TGK
open TG
open PySem L2 Gx
/-! ### signs and texts, whatever is asked -/
def sgB (c : Nat) : Bool := decide (32 ≤ c) && decide (c ≤ 126) && decide (c ≠ 37)
theorem sgB_iff {c : Nat} : sgB c = true ↔ SgOk c := by
  unfold sgB SgOk
  simp only [Bool.and_eq_true, decide_eq_true_eq]
  omega
def textB (z : Str) (m : Int) : Bool := decide ((z.length : Int) ≤ m) && (cl z).all sgB
/-- what is no text -/
def NoText (K : PySem.W.Frag) (H : Hp) (v : V) : Prop := ∃ nm : String, TyX K H v (.type nm) ∧ kitB nm "str" = some false
section
variable {P : Program} {w : World} {K : PySem.W.Frag} {mg : Str → Option Value} {base : Heap} {cs : List (Addr × Addr)}
def spSg2 : Sp := fun vs H Q _ => ∃ c : Nat, vs = [.str ⟨#[c]⟩] ∧ Q (.bl (sgB c)) H
theorem ok_sg2 {f : Addr} {fd : FuncData} (T : Txt mg) (N : Consts mg) (F : Fun K "is_sign" "is_sign" s_is_sign f fd) : FnOk P w K mg base CX0 1 f fd ["sign"] spSg2 := by
  refine F.ok sc_sg (fun vs H Q E h => ?_) (fun cdv A outer s H vs Q E hr h => ?_)
  · obtain ⟨c, rfl, _⟩ := h
    rfl
  · obtain ⟨c, rfl, k⟩ := h
    obtain ⟨t1, e1⟩ := N.blank
    obtain ⟨t2, e2⟩ := N.tilde
    obtain ⟨t3, e3⟩ := N.percent
    refine ⟨_, pss_one (ps_ret (pe_and (pe_chain op_le op_le (pe_glob (v := .int 32) rfl e1 ⟨_, rfl⟩) (pe_callB call_ord (by rfl) T.ord (by decide +kernel) (pa_cons (pv 0) pa_nil)) (pe_glob (v := .int 126) rfl e2 ⟨_, rfl⟩))
      (pe_one (pe_cmpR op_ne (pe_callB call_ord (by rfl) T.ord (by decide +kernel) (pa_cons (pv 0) pa_nil)) (pe_glob (v := .int 37) rfl e3 ⟨_, rfl⟩) (nomark _))))), ?_⟩
    refine ⟨_, rfl, _, rfl, rfl, 32, (c : Int), rfl, rfl, ?_⟩
    by_cases h1 : 32 ≤ c
    · refine ⟨true, dT (show (32 : Int) ≤ c by omega), iteT ⟨(c : Int), 126, rfl, rfl, ?_⟩⟩
      by_cases h2 : c ≤ 126
      · have e4 : V.bl (decide ((c : Int) ≤ 126)) = V.bl true := dT (by omega)
        refine ⟨true, e4, iteT ⟨_, rfl, _, rfl, rfl, rfl, ?_⟩⟩
        have e5 : (!decide (V.int (c : Int) = V.int 37)) = sgB c := by
          unfold sgB
          rw [decide_eq_true h1, decide_eq_true h2]
          by_cases h3 : c = 37
          · subst h3
            rfl
          · rw [decide_eq_false (show ¬ V.int (c : Int) = V.int 37 from fun z => by injection z with z; exact h3 (by omega)), decide_eq_true (show c ≠ 37 from h3)]
            rfl
        show Q (.bl (!decide (V.int (c : Int) = V.int 37))) H
        rw [e5]
        exact k
      · have e4 : V.bl (decide ((c : Int) ≤ 126)) = V.bl false := dF (by omega)
        have e5 : sgB c = false := by
          unfold sgB
          rw [decide_eq_false h2, Bool.and_false, Bool.false_and]
        rw [e5] at k
        exact ⟨false, e4, iteF k⟩
    · have e5 : sgB c = false := by
        unfold sgB
        rw [decide_eq_false h1, Bool.false_and, Bool.false_and]
      rw [e5] at k
      refine ⟨false, dF (by omega), iteF ⟨false, ?_, iteF ?_⟩⟩
      · first | rfl | exact dF (by omega)
      · exact k
def spText2 (K : PySem.W.Frag) (cs : List (Addr × Addr)) : Sp := fun vs H Q _ => ∃ (v : V) (m : Int) (b : Bool), vs = [v, .int m] ∧ Tabs cs H ∧ ((NoText K H v ∧ b = false) ∨ ∃ z, v = .str z ∧ z.length ≤ 1000 ∧ b = textB z m) ∧ ∀ H', Ex cs H H' → Q (.bl b) H'
theorem ok_text2 {f c Pt g : Addr} {fd fdg : FuncData} (T : Txt mg) (F : Fun K "is_text_of_signs" "is_text_of_signs" s_is_text f fd) (hc : fd.code = .ref c) (TB : GxR.TabB base mg c Pt) (hm : (c, Pt) ∈ cs)
    (G : FnOk P w K mg base CX0 1 g fdg ["sign"] spSg2) (kp : PySem.W.keepIn K (.ref g) = true) (bd : Binds K fdg ["sign"] []) (mgg : mg "is_sign" = some (.ref g)) : FnOk P w K mg base CX0 5 f fd ["value", "most"] (spText2 K cs) := by
  refine fun_okT F hc sc_text (fun vs H Q E h => ?_) (fun A outer s H vs Q E hr h => ?_)
  · obtain ⟨v, m, b, rfl, _⟩ := h
    rfl
  · obtain ⟨v, m, b, rfl, hT, hv, k⟩ := h
    refine ⟨_, pss_one (ps_ret (pe_and (pe_callB call_isi (by rfl) T.isin (by decide +kernel) (pa_cons (pv 0) (pa_cons (pe_bltn (v := .ty "str") (by rfl) T.str (by decide +kernel) rfl) pa_nil)))
      (pe_and (pe_cmpR op_le (pe_callB call_len_str (by rfl) T.len PySem.boot_len (pa_cons (pv 0) pa_nil)) (pv 1) (nomark _))
        (pe_one (pe_allG (k := 1) (P := Pt) hr (by rfl) T.all TB rfl ⟨rfl, rfl, by decide +kernel, by decide +kernel, rfl, rfl⟩ (pi_str (pv 0)) (fun A' code s4 H4 fp hr' => pe_call G hr' (by rfl) mgg kp bd .nil pass0 (pa_cons (pv 0) pa_nil)) (fun _ => rfl)))))), ?_⟩
    rcases hv with ⟨⟨nm, ty, hk⟩, rfl⟩ | ⟨z, rfl, h2, rfl⟩
    · exact ⟨_, rfl, _, _, _, _, false, rfl, .ty _, ty, kit_ty hk, false, rfl, iteF (k _ (Ex.refl hT))⟩
    · refine ⟨_, rfl, _, _, _, _, true, rfl, .ty _, .base (.str z), kit_ty (by decide +kernel), true, rfl, iteT ⟨_, rfl, z, rfl, line10 h2, _, rfl, _, _, rfl, rfl, ?_⟩⟩
      by_cases h1 : (z.length : Int) ≤ m
      · have hB : textB z m = (cl z).all sgB := by
          unfold textB
          rw [decide_eq_true h1, Bool.true_and]
        refine ⟨true, dT h1, iteT ⟨_, rfl, z, rfl, hT _ hm, fun H2 hH2 => ?_⟩⟩
        have x2 := Ex.tabbed hT hm hH2
        refine all_by (w := walk_str (z := z)) (fun i => match (cl z)[i]? with | some c => sgB c | none => true) (fun _ H' => Ex cs H H') x2 (fun _ _ _ _ => trivial) (fun i v H3 H4 hi x y Z hZ => ?_) (fun H3 x hall => ?_) (fun i H3 hi hff x => ?_)
        · obtain ⟨rfl, c, hc, rfl⟩ := y
          have hc2 : (cl z)[i]? = some c := by rw [Array.getElem?_toList]; exact hc
          refine ⟨_, rfl, c, rfl, ?_⟩
          have := hZ _ x
          rw [hc2] at this
          exact this
        · have e : textB z m = true := by
            rw [hB, List.all_eq_true]
            intro c hcm
            obtain ⟨i, hi, e⟩ := List.getElem_of_mem hcm
            have q := hall i (by have := len_cl z; omega)
            rw [List.getElem?_eq_getElem hi, e] at q
            exact q
          rw [← e]
          exact k _ x
        · have e : textB z m = false := by
            rw [hB, Bool.eq_false_iff]
            intro q
            rw [List.all_eq_true] at q
            have hi2 : i < (cl z).length := by have := len_cl z; omega
            rw [List.getElem?_eq_getElem hi2] at hff
            have := q _ (List.getElem_mem hi2)
            rw [show sgB (cl z)[i] = false from hff] at this
            cases this
          rw [← e]
          exact k _ x
      · have e : textB z m = false := by
          unfold textB
          rw [decide_eq_false h1, Bool.false_and]
        rw [e] at k
        exact ⟨false, dF h1, iteF (k _ (Ex.refl hT))⟩
end
end TGK

namespace TGK
open TG
open PySem PySem.Spec PyProof.Rows L2 Gx EnT
/-! ### errors, checks, rows parted and joined -/
/-- an own class of errors that is made with a text -/
structure ErrC (K : PySem.W.Frag) (mg : Str → Option Value) (x : Str) (C G : Addr) : Prop where
  mg_ : mg x = some (.ref C)
  exc : PySem.W.excIn K C [.type "ValueError", .type "Exception", .type "BaseException", .type "object"] "ValueError.__new__" = true
  kp : PySem.W.keepIn K (.ref C) = true
  sub : PySem.W.subIn K (.ref C) (.type "BaseException") = some true
  ty : PySem.W.typeIn K (.ref C) = some (.type "type")
  up : PySem.W.exmOne K (.ref C) (.ref G) = some true
structure SErr (K : PySem.W.Frag) (mg : Str → Option Value) (R C G : Addr) : Prop where
  row : ErrC K mg "BadRow" R G
  cell : ErrC K mg "BadCell" C G
  grow : mg "GrowError" = some (.ref G)
/-- rows at addresses -/
structure RowsAt (K : PySem.W.Frag) (H : Hp) (as : List Addr) (rows : List (List Str)) : Prop where
  len : as.length = rows.length
  row : ∀ (i : Nat) (p : Addr) (r : List Str), as[i]? = some p → rows[i]? = some r → SqT K H p (sV r)
theorem _root_.TG.PageAt.rows {K : PySem.W.Frag} {H : Hp} {a : Addr} {as : List Addr} {rows : List (List Str)} (p : PageAt K H a as rows) : RowsAt K H as rows := ⟨p.len, p.row⟩
section
variable {P : Program} {w : World} {K : PySem.W.Frag} {mg : Str → Option Value} {base : Heap} {cs : List (Addr × Addr)} {R C G : Addr}
def spWholeB : Sp := fun vs H Q _ => ∃ (i lo hi : Int), vs = [.int i, .int lo, .int hi] ∧ Q (.bl (decide (lo ≤ i ∧ i ≤ hi))) H
theorem ok_wholeB {f : Addr} {fd : FuncData} (T : Txt mg) (F : Fun K "is_whole" "is_whole" s_is_whole f fd) : FnOk P w K mg base CX0 1 f fd ["value", "low", "high"] spWholeB := by
  refine F.ok sc_whole (fun vs H Q E h => ?_) (fun cdv A outer s H vs Q E hr h => ?_)
  · obtain ⟨i, lo, hi, rfl, _⟩ := h
    rfl
  · obtain ⟨i, lo, hi, rfl, k⟩ := h
    refine ⟨_, pss_one (ps_ret (pe_and (pe_callB call_isi (by rfl) T.isin (by decide +kernel) (pa_cons (pv 0) (pa_cons (pe_bltn (v := .ty "int") (by rfl) T.int (by decide +kernel) rfl) pa_nil)))
      (pe_and (pe_not (pe_callB call_isi (by rfl) T.isin (by decide +kernel) (pa_cons (pv 0) (pa_cons (pe_bltn (v := .ty "bool") (by rfl) T.bool (by decide +kernel) rfl) pa_nil)))) (pe_one (pe_chain op_le op_le (pv 1) (pv 0) (pv 2)))))), ?_⟩
    refine ⟨_, rfl, _, _, _, _, true, rfl, .ty _, .base (.int i), kit_ty (by decide +kernel), true, rfl, iteT ⟨_, rfl, _, _, _, _, false, rfl, .ty _, .base (.int i), kit_ty (by decide +kernel), false, rfl, true, rfl, iteT ⟨_, rfl, _, rfl, lo, i, rfl, rfl, ?_⟩⟩⟩
    by_cases h1 : lo ≤ i
    · refine ⟨true, dT h1, iteT ⟨_, rfl, i, hi, rfl, rfl, ?_⟩⟩
      have e : decide (lo ≤ i ∧ i ≤ hi) = decide (i ≤ hi) := by simp [h1]
      rw [e] at k
      exact k
    · have e : decide (lo ≤ i ∧ i ≤ hi) = false := decide_eq_false fun z => h1 z.1
      rw [e] at k
      exact ⟨false, dF h1, iteF k⟩
theorem sc_num : FnScope ["number", "last"] ["number", "last"] (defScope s_check_number) := ⟨rfl, rfl, rfl, by decide +kernel, rfl, by decide +kernel, by decide +kernel⟩
/-- a number that is one -/
def spNum0 : Sp := fun vs H Q _ => ∃ (n last : Int), vs = [.int n, .int last] ∧ 0 ≤ n ∧ n ≤ last ∧ Q .non H
theorem ok_num0 {f g : Addr} {fd fdg : FuncData} (F : Fun K "check_number" "check_number" s_check_number f fd)
    (W : FnOk P w K mg base CX0 1 g fdg ["value", "low", "high"] spWholeB) (kp : PySem.W.keepIn K (.ref g) = true) (bd : Binds K fdg ["value", "low", "high"] []) (mgg : mg "is_whole" = some (.ref g)) : FnOk P w K mg base CX0 2 f fd ["number", "last"] spNum0 := by
  refine F.ok sc_num (fun vs H Q E h => ?_) (fun cdv A outer s H vs Q E hr h => ?_)
  · obtain ⟨n, last, rfl, _⟩ := h
    rfl
  · obtain ⟨n, last, rfl, h1, h2, k⟩ := h
    refine ⟨_, pss_one (ps_if (pt_not (pt_val (pe_call W hr (by rfl) mgg kp bd .nil pass0 (pa_cons (pv 0) (pa_cons pe_int (pa_cons (pv 1) pa_nil)))))) (pss_one ps_never) pss_nil), ?_⟩
    refine ⟨_, rfl, _, rfl, n, 0, last, rfl, true, ?_, iteF k⟩
    rw [decide_eq_true ⟨h1, h2⟩]
/-- a number that is one, or none -/
def spNum (R : Addr) : Sp := fun vs H Q E => ∃ (n last : Int), vs = [.int n, .int last] ∧ (0 ≤ n ∧ n ≤ last → Q .non H) ∧ (¬ (0 ≤ n ∧ n ≤ last) → E (.ref R) none H)
theorem ok_num {f g : Addr} {fd fdg : FuncData} (Er : SErr K mg R C G) (F : Fun K "check_number" "check_number" s_check_number f fd)
    (W : FnOk P w K mg base CX0 1 g fdg ["value", "low", "high"] spWholeB) (kp : PySem.W.keepIn K (.ref g) = true) (bd : Binds K fdg ["value", "low", "high"] []) (mgg : mg "is_whole" = some (.ref g)) : FnOk P w K mg base (L2.CX P w) 2 f fd ["number", "last"] (spNum R) := by
  refine F.okX sc_num (fun vs H Q E h => ?_) (fun cdv A outer s H vs Q E hr h => ?_)
  · obtain ⟨n, last, rfl, _⟩ := h
    rfl
  · obtain ⟨n, last, rfl, k1, k2⟩ := h
    refine ⟨_, pss_one (ps_if (pt_not (pt_val (pe_call W hr (by rfl) mgg kp bd .nil pass0 (pa_cons (pv 0) (pa_cons pe_int (pa_cons (pv 1) pa_nil))))))
      (pss_one (ps_raise rfl (takes_of rfl rfl rfl rfl) (pmk_own PySem.F.excBase_ValueError Er.row.exc Er.row.mg_ Er.row.kp (raises_own Er.row.sub Er.row.ty) rfl))) pss_nil), ?_⟩
    refine ⟨_, rfl, _, rfl, n, 0, last, rfl, _, rfl, ?_⟩
    by_cases h : 0 ≤ n ∧ n ≤ last
    · rw [decide_eq_true h]
      exact iteF (k1 h)
    · rw [decide_eq_false h]
      exact iteT (k2 h)
theorem sc_csign : FnScope ["sign"] ["sign"] (defScope s_check_sign) := ⟨rfl, rfl, rfl, by decide +kernel, rfl, by decide +kernel, by decide +kernel⟩
abbrev tabS : Str := "\t"
def spCSign (cs : List (Addr × Addr)) : Sp := fun vs H Q _ => ∃ (z : Str), vs = [.str z] ∧ Tabs cs H ∧ (z = tabS ∨ (Sgs z 1 ∧ z ≠ nilS)) ∧ ∀ H', Ex cs H H' → Q .non H'
theorem vstr_ne {a b : Str} : (!decide (V.str a = V.str b)) = decide (a ≠ b) := by
  by_cases h : a = b
  · rw [decide_eq_true (by rw [h]), decide_eq_false (by simp [h])]
    rfl
  · rw [decide_eq_false (fun z => h (by injection z)), decide_eq_true h]
    rfl
/-- is_filled of a text that is one -/
def spFilled (cs : List (Addr × Addr)) : Sp := fun vs H Q _ => ∃ (z : Str) (m : Int), vs = [.str z, .int m] ∧ Tabs cs H ∧ (z.length : Int) ≤ m ∧ z.length ≤ 1000 ∧ (∀ c ∈ z.cps.toList, SgOk c) ∧ z ≠ nilS ∧ ∀ H', Ex cs H H' → Q (.bl true) H'
theorem sc_filled : FnScope ["value", "most"] ["value", "most"] (defScope s_filled) := ⟨rfl, rfl, rfl, by decide +kernel, rfl, by decide +kernel, by decide +kernel⟩
theorem ok_filled {f g : Addr} {fd fdg : FuncData} (F : Fun K "is_filled" "is_filled" s_filled f fd)
    (W : FnOk P w K mg base CX0 5 g fdg ["value", "most"] (spText cs)) (kp : PySem.W.keepIn K (.ref g) = true) (bd : Binds K fdg ["value", "most"] []) (mgg : mg "is_text_of_signs" = some (.ref g)) : FnOk P w K mg base CX0 6 f fd ["value", "most"] (spFilled cs) := by
  refine F.ok sc_filled (fun vs H Q E h => ?_) (fun cdv A outer s H vs Q E hr h => ?_)
  · obtain ⟨z, m, rfl, _⟩ := h
    rfl
  · obtain ⟨z, m, rfl, hT, h1, h2, h3, hn, k⟩ := h
    refine ⟨_, pss_one (ps_ret (pe_and (pe_call W hr (by rfl) mgg kp bd .nil pass0 (pa_cons (pv 0) (pa_cons (pv 1) pa_nil))) (pe_one (pe_cmpR op_ne (pv 0) pe_str (nomark _))))), ?_⟩
    refine ⟨_, rfl, _, rfl, z, m, rfl, hT, h1, h2, h3, fun H1 x1 => ⟨true, rfl, iteT ⟨_, rfl, rfl, ?_⟩⟩⟩
    rw [vstr_ne, decide_eq_true (show z ≠ ("" : Str) from hn)]
    exact k H1 x1
theorem ok_csign {f g : Addr} {fd fdg : FuncData} (eT : ∃ t, mg "TAB" = some (.str tabS t)) (F : Fun K "check_sign" "check_sign" s_check_sign f fd)
    (W : FnOk P w K mg base CX0 6 g fdg ["value", "most"] (spFilled cs)) (kp : PySem.W.keepIn K (.ref g) = true) (bd : Binds K fdg ["value", "most"] []) (mgg : mg "is_filled" = some (.ref g)) : FnOk P w K mg base CX0 7 f fd ["sign"] (spCSign cs) := by
  refine F.ok sc_csign (fun vs H Q E h => ?_) (fun cdv A outer s H vs Q E hr h => ?_)
  · obtain ⟨z, rfl, _⟩ := h
    rfl
  · obtain ⟨z, rfl, hT, hz, k⟩ := h
    obtain ⟨tt, eT⟩ := eT
    refine ⟨_, pss_one (ps_if (PW.pt (pw_and (pt_cmpR op_ne (pv 0) (pe_glob (v := .str tabS) rfl eT ⟨_, rfl⟩) (nomark _)) (pw_and1 (pt_not (pt_val (pe_call W hr (by rfl) mgg kp bd .nil pass0 (pa_cons (pv 0) (pa_cons pe_int pa_nil))))))))
      (pss_one ps_never) pss_nil), ?_⟩
    refine ⟨_, rfl, rfl, _, rfl, ?_⟩
    rw [vstr_ne]
    by_cases h : z = tabS
    · rw [decide_eq_false (by simp [h])]
      exact iteF (iteF (k H (Ex.refl hT)))
    · rw [decide_eq_true h]
      rcases hz with q | ⟨q1, q2⟩
      · exact absurd q h
      exact iteT ⟨_, rfl, z, 1, rfl, hT, by have := q1.len; omega, by have := q1.len; omega, q1.sg, q2, fun H1 x1 => ⟨true, rfl, iteF (k H1 x1)⟩⟩
/-- is_row of a row whose cells are of signs -/
def spRowB (K : PySem.W.Frag) (cs : List (Addr × Addr)) : Sp := fun vs H Q _ => ∃ (a : Addr) (r : List Str), vs = [.ref a] ∧ Tabs cs H ∧ SqT K H a (sV r) ∧ RowL r 100 100 ∧ ∀ H', Ex cs H H' → Q (.bl (fitR r)) H'
theorem sgs_textB {z : Str} {m : Nat} (h : Sgs z m) : textB z 10 = decide (z.length ≤ 10) := by
  have e : (cl z).all sgB = true := by
    rw [List.all_eq_true]
    intro c hc
    have := h.sg c hc
    unfold sgB
    obtain ⟨h1, h2, h3⟩ := this
    simp [h1, h2, h3]
  unfold textB
  rw [e, Bool.and_true]
  by_cases q : z.length ≤ 10
  · rw [decide_eq_true q, decide_eq_true (show ((z.length : Nat) : Int) ≤ 10 by omega)]
  · rw [decide_eq_false q, decide_eq_false (show ¬ ((z.length : Nat) : Int) ≤ 10 by omega)]
theorem ok_rowB {f c Pt g : Addr} {fd fdg : FuncData} (T : Txt mg) (N : Consts mg) (F : Fun K "is_row" "is_row" s_is_row f fd) (hc : fd.code = .ref c) (TB : GxR.TabB base mg c Pt) (hm : (c, Pt) ∈ cs)
    (W : FnOk P w K mg base CX0 5 g fdg ["value", "most"] (spText2 K cs)) (kp : PySem.W.keepIn K (.ref g) = true) (bd : Binds K fdg ["value", "most"] []) (mgg : mg "is_text_of_signs" = some (.ref g)) : FnOk P w K mg base CX0 9 f fd ["value"] (spRowB K cs) := by
  refine fun_okT F hc sc_row (fun vs H Q E h => ?_) (fun A outer s H vs Q E hr h => ?_)
  · obtain ⟨a, r, rfl, _⟩ := h
    rfl
  · obtain ⟨a, r, rfl, hT, hS, hL, k⟩ := h
    obtain ⟨t1, e1⟩ := N.cells
    obtain ⟨t2, e2⟩ := N.signs
    refine ⟨_, pss_cons (ps_if (PW.pt (pw_or (pt_not (pt_val (pe_callB call_isi (by rfl) T.isin (by decide +kernel) (pa_cons (pv 0) (pa_cons (pe_bltn (v := .ty "tuple") (by rfl) T.tuple (by decide +kernel) rfl) pa_nil)))))
        (pw_or1 (pt_not (pt_chain op_le op_le pe_int (pe_callB call_len_seq (by rfl) T.len PySem.boot_len (pa_cons (pv 0) pa_nil)) (pe_glob (v := .int 6) rfl e1 ⟨_, rfl⟩)))))) (pss_one (ps_ret pe_bl)) pss_nil)
      (pss_one (ps_ret (pe_allG (k := 5) (P := Pt) hr (by rfl) T.all TB rfl ⟨rfl, rfl, by decide +kernel, by decide +kernel, rfl, rfl⟩ (pi_tup (pv 0))
        (fun A' code s4 H4 fp hr' => pe_call W hr' (by rfl) mgg kp bd .nil pass0 (pa_cons (pv 0) (pa_cons (pe_glob (v := .int 10) rfl e2 ⟨_, rfl⟩) pa_nil))) (fun _ => rfl)))), ?_⟩
    have hl : (sV r).length = r.length := List.length_map ..
    have hpos := hL.pos
    refine ⟨_, rfl, _, _, _, _, true, rfl, .ty _, ty_tup hS, kit_ty (by decide +kernel), true, rfl, iteF ⟨_, rfl, a, _, rfl, .inr hS, 1, _, rfl, rfl, true, dT (by omega), iteT ⟨_, 6, rfl, rfl, ?_⟩⟩⟩
    by_cases h6 : r.length ≤ 6
    · refine ⟨true, dT (by omega), iteF ⟨_, rfl, a, rfl, ⟨_, hS⟩, hT _ hm, fun H2 hH2 => ?_⟩⟩
      have x2 := Ex.tabbed hT hm hH2
      refine all_by (w := walk_tup (a := a) (xs := sV r)) (fun i => match r[i]? with | some z => decide (z.length ≤ 10) | none => true) (fun _ H' => Ex cs H H') x2 (fun i H' _ x => x.sqT hS) (fun i v H3 H4 hi x y Z hZ => ?_) (fun H3 x hall => ?_) (fun i H3 hi hff x => ?_)
      · obtain ⟨rfl, hv⟩ := y
        obtain ⟨z, hz, rfl⟩ := get_map hv
        have hg := hL.cells z (List.mem_of_getElem? hz)
        have hg1 := hg.len
        refine ⟨_, rfl, .str z, 10, _, rfl, x.tab, .inr ⟨z, rfl, by omega, rfl⟩, fun H5 x5 => ?_⟩
        rw [sgs_textB hg]
        have := hZ _ (x.trans x5)
        rw [hz] at this
        exact this
      · have e : fitR r = true := hL.fit.mpr (hL.ok h6 fun z hz => by
          obtain ⟨i, hi, e⟩ := List.getElem_of_mem hz
          have q := hall i (by omega)
          rw [List.getElem?_eq_getElem hi, e] at q
          exact of_decide_eq_true q)
        rw [← e]
        exact k _ x
      · have e : fitR r = false := by
          rw [Bool.eq_false_iff]
          intro q
          have o := hL.fit.mp q
          have hi2 : i < r.length := by omega
          rw [List.getElem?_eq_getElem hi2] at hff
          exact absurd (o.cells _ (List.getElem_mem hi2)).len (of_decide_eq_false hff)
        rw [← e]
        exact k _ x
    · refine ⟨false, dF (by omega), iteT ?_⟩
      have e : fitR r = false := by
        rw [Bool.eq_false_iff]
        intro q
        exact h6 (hL.fit.mp q).len
      rw [← e]
      exact k _ (Ex.refl hT)
theorem sc_fits : FnScope ["many", "rows", "row"] ["many", "rows"] (defScope s_check_fits) := ⟨rfl, rfl, rfl, by decide +kernel, rfl, by decide +kernel, by decide +kernel⟩
/-- check_fits -/
def fitsR (m : Int) (new : List (List Str)) : Bool := decide (1 ≤ m ∧ m ≤ 30) && new.all fitR
def spFits (K : PySem.W.Frag) (cs : List (Addr × Addr)) (R C : Addr) : Sp := fun vs H Q E => ∃ (m : Int) (nl : Addr) (nas : List Addr) (new : List (List Str)), vs = [.int m, .ref nl] ∧ Tabs cs H ∧ H nl = some (.lst (nas.map V.ref)) ∧ RowsAt K H nas new ∧ (∀ r ∈ new, RowL r 100 100) ∧
  (fitsR m new = true → ∀ H', Ex cs H H' → Q .non H') ∧ (fitsR m new = false → ∀ c H', c = R ∨ c = C → Ex cs H H' → E (.ref c) none H')
theorem ok_fits {f g : Addr} {fd fdg : FuncData} (N : Consts mg) (Er : SErr K mg R C G) (F : Fun K "check_fits" "check_fits" s_check_fits f fd)
    (W : FnOk P w K mg base CX0 9 g fdg ["value"] (spRowB K cs)) (kp : PySem.W.keepIn K (.ref g) = true) (bd : Binds K fdg ["value"] []) (mgg : mg "is_row" = some (.ref g)) : FnOk P w K mg base (L2.CX P w) 11 f fd ["many", "rows"] (spFits K cs R C) := by
  refine F.okX sc_fits (fun vs H Q E h => ?_) (fun cdv A outer s H vs Q E hr h => ?_)
  · obtain ⟨m, nl, nas, new, rfl, _⟩ := h
    rfl
  · obtain ⟨m, nl, nas, new, rfl, hT, hN, hA, hL, k1, k2⟩ := h
    have nd := sc_fits.nd
    obtain ⟨t1, e1⟩ := N.rows
    refine ⟨_, pss_cons (ps_if (pt_not (pt_chain op_le op_le pe_int (pv 0) (pe_glob (v := .int 30) rfl e1 ⟨_, rfl⟩)))
        (pss_one (ps_raise rfl (takes_of rfl rfl rfl rfl) (pmk_own PySem.F.excBase_ValueError Er.row.exc Er.row.mg_ Er.row.kp (raises_own Er.row.sub Er.row.ty) rfl))) pss_nil)
      (pss_one (ps_for (passes_of rfl) rfl (pi_list (pv 1)) (pg_name (i := 2) nd rfl (.inl rfl))
        (pss_one (ps_if (pt_not (pt_val (pe_call W (hr.mono (by decide)) (by rfl) mgg kp bd .nil pass0 (pa_cons (pv 2) pa_nil))))
          (pss_one (ps_raise rfl (takes_of rfl rfl rfl rfl) (pmk_own PySem.F.excBase_ValueError Er.cell.exc Er.cell.mg_ Er.cell.kp (raises_own Er.cell.sub Er.cell.ty) rfl))) pss_nil)))), ?_⟩
    have no : ¬ (1 ≤ m ∧ m ≤ 30) → E (.ref R) none H := fun h => k2 (by unfold fitsR; rw [decide_eq_false h, Bool.false_and]) _ _ (.inl rfl) (Ex.refl hT)
    refine ⟨_, rfl, 1, m, rfl, rfl, ?_⟩
    by_cases h1 : 1 ≤ m
    · refine ⟨true, dT h1, iteT ⟨m, 30, rfl, rfl, ?_⟩⟩
      by_cases h2 : m ≤ 30
      · refine ⟨true, dT h2, iteF ?_⟩
        have ef : fitsR m new = new.all fitR := by unfold fitsR; rw [decide_eq_true ⟨h1, h2⟩, Bool.true_and]
        rw [ef] at k1 k2
        refine ⟨_, rfl, nl, rfl, ⟨_, SqL.of hN⟩, for_list (xs := nas.map V.ref) (fun i σ H' => Ex cs H H' ∧ (∀ j r, j < i → new[j]? = some r → fitR r = true) ∧ ∃ c, σ = [some (.int m), some (.ref nl), c]) ⟨Ex.refl hT, fun j r hj => absurd hj (Nat.not_lt_zero _), none, rfl⟩ (fun i σ H' _ x => x.1.sqL (SqL.of hN)) ?_ ?_⟩
        · rintro i x σ H3 hx ⟨x3, ha, c, rfl⟩
          obtain ⟨q, hq, rfl⟩ := get_map hx
          have hi2 : i < new.length := by have := (List.getElem?_eq_some_iff.mp hq).1; rw [hA.len] at this; exact this
          obtain ⟨r, hr2⟩ := getP (xs := new) (i := i) hi2
          refine ⟨_, rfl, q, r, rfl, x3.tab, x3.sqT (hA.row i q r hq hr2), hL r (List.mem_of_getElem? hr2), fun H4 x4 => ⟨_, rfl, ?_⟩⟩
          cases e : fitR r with
          | true =>
            refine iteF ⟨x3.trans x4, fun j r' hj e' => ?_, _, rfl⟩
            by_cases hji : j = i
            · subst hji
              rw [hr2] at e'
              cases e'
              exact e
            · exact ha j r' (by omega) e'
          | false =>
            refine iteT (k2 ?_ _ _ (.inr rfl) (x3.trans x4))
            rw [Bool.eq_false_iff]
            intro z
            rw [List.all_eq_true] at z
            rw [z r (List.mem_of_getElem? hr2)] at e
            cases e
        · rintro σ H3 ⟨x3, ha, c, rfl⟩
          refine k1 ?_ _ x3
          rw [List.all_eq_true]
          intro r hr2
          obtain ⟨i, hi, e⟩ := List.getElem_of_mem hr2
          exact ha i r (by rw [List.length_map, hA.len]; exact hi) (by rw [List.getElem?_eq_getElem hi, e])
      · exact ⟨false, dF h2, iteT (no fun z => h2 z.2)⟩
    · exact ⟨false, dF h1, iteF ⟨false, rfl, iteT (no fun z => h1 z.1)⟩⟩
end
end TGK

namespace TGK
open TG
open PySem PySem.Spec PyProof.Rows L2 Gx EnT
section
variable {P : Program} {w : World} {K : PySem.W.Frag} {mg : Str → Option Value} {base : Heap} {cs : List (Addr × Addr)} {R C G : Addr}
abbrev nmHalf : List Str := ["rows", "number", "cell", "place", "row", "text"]
theorem sc_half : FnScope nmHalf ["rows", "number", "cell", "place"] (defScope s_halves) := ⟨rfl, rfl, rfl, by decide +kernel, rfl, by decide +kernel, by decide +kernel⟩
def spHalf (K : PySem.W.Frag) : Sp := fun vs H Q _ => ∃ (rl : Addr) (as : List Addr) (rows : List (List Str)) (n c k : Nat) (r : List Str), vs = [.ref rl, .int (n : Nat), .int (c : Nat), .int (k : Nat)] ∧ PageAt K H rl as rows ∧ rows[n]? = some r ∧ RowOk r ∧ c < r.length ∧ k ≤ (r.getD c nilS).length ∧
  ∀ (t p q : Addr) (H' : Hp), Same H H' → H' t = some (.tup [.ref p, .ref q]) → SqT K H' p (sV (halvA r c k)) → SqT K H' q (sV (halvB r c k)) → Q (.ref t) H'
theorem ok_half {f g1 g2 : Addr} {fd fd1 fd2 : FuncData} (T : Txt mg) (F : Fun K "halves" "halves" s_halves f fd)
    (G1 : FnOk P w K mg base CX0 2 g1 fd1 ["number", "last"] spNum0) (k1 : PySem.W.keepIn K (.ref g1) = true) (b1 : Binds K fd1 ["number", "last"] []) (m1 : mg "check_number" = some (.ref g1))
    (G2 : FnOk P w K mg base CX0 1 g2 fd2 ["value", "low", "high"] spWhole) (k2 : PySem.W.keepIn K (.ref g2) = true) (b2 : Binds K fd2 ["value", "low", "high"] []) (m2 : mg "is_whole" = some (.ref g2)) : FnOk P w K mg base CX0 3 f fd ["rows", "number", "cell", "place"] (spHalf K) := by
  refine F.ok sc_half (fun vs H Q E h => ?_) (fun cdv A outer s H vs Q E hr h => ?_)
  · obtain ⟨rl, as, rows, n, c, k, r, rfl, _⟩ := h
    rfl
  · obtain ⟨rl, as, rows, n, c, k, r, rfl, hP, hn, hR, hc, hk, kq⟩ := h
    have nd := sc_half.nd
    have r1 : Room 1 _ := hr.mono (by decide)
    refine ⟨_, pss_cons (ps_expr (pe_call G1 hr (by rfl) m1 k1 b1 .nil pass0 (pa_cons (pv 1) (pa_cons (pe_op op_sub (pe_callB call_len_seq (by rfl) T.len PySem.boot_len (pa_cons (pv 0) pa_nil)) pe_int) pa_nil))))
      (pss_cons (ps_set (i := 4) nd rfl (.inl rfl) (pe_ix ix_list (pv 0) (pv 1) (fun _ _ => rfl)))
      (pss_cons (ps_if (pt_not (pt_val (pe_call G2 r1 (by rfl) m2 k2 b2 .nil pass0 (pa_cons (pv 2) (pa_cons pe_int (pa_cons (pe_op op_sub (pe_callB call_len_seq (by rfl) T.len PySem.boot_len (pa_cons (pv 4) pa_nil)) pe_int) pa_nil)))))) (pss_one ps_never) pss_nil)
      (pss_cons (ps_set (i := 5) nd rfl (.inl rfl) (pe_ix ix_tup (pv 4) (pv 2) (fun _ _ => rfl)))
      (pss_cons (ps_if (pt_not (pt_val (pe_call G2 r1 (by rfl) m2 k2 b2 .nil pass0 (pa_cons (pv 3) (pa_cons pe_int (pa_cons (pe_callB call_len_str (by rfl) T.len PySem.boot_len (pa_cons (pv 5) pa_nil)) pa_nil)))))) (pss_one ps_never) pss_nil)
      (pss_one (ps_ret (pe_tup (pa_cons (pe_op op_catA (pe_slice sl_tupA (pv 4) po_none (po_some (pv 2))) (pe_tup (pa_cons (pe_slice sl_str (pv 5) po_none (po_some (pv 3))) pa_nil)))
        (pa_cons (pe_op op_catA (pe_tup (pa_cons (pe_slice sl_str (pv 5) (po_some (pv 3)) po_none) pa_nil)) (pe_slice sl_tupA (pv 4) (po_some (pe_op op_add (pv 2) pe_int)) po_none)) pa_nil))))))))), ?_⟩
    have hlt : n < rows.length := (List.getElem?_eq_some_iff.mp hn).1
    have la : (as.map V.ref).length = rows.length := by rw [List.length_map, hP.len]
    have lr : (sV r).length = r.length := List.length_map ..
    have hz := hR.cells _ (getD_mem hc)
    have h6 := hR.len
    obtain ⟨q0, hq0⟩ := getP (xs := as) (i := n) (by rw [hP.len]; exact hlt)
    have hq := hP.row n q0 r hq0 hn
    have szl : (1000 : Nat) < sizeLine := by decide
    refine ⟨_, rfl, _, rfl, rl, _, rfl, .inl hP.lst, _, _, rfl, rfl, _, _, rfl, by omega, by omega, ?_⟩
    refine ⟨_, rfl, _, rfl, rl, _, _, .ref q0, rfl, rfl, hP.lst, atI_nat (by rw [List.getElem?_map, hq0]; rfl), ?_⟩
    refine ⟨_, rfl, _, rfl, q0, _, rfl, .inr hq, _, _, rfl, rfl, _, 0, _, rfl, by omega, by omega, true, rfl, iteF ?_⟩
    refine ⟨_, rfl, _, rfl, q0, _, _, _, rfl, rfl, hq, atZ hc, ?_⟩
    refine ⟨_, rfl, _, rfl, _, rfl, by have := hz.len; omega, _, 0, _, rfl, by omega, by omega, true, rfl, iteF ?_⟩
    refine ⟨_, rfl, _, rfl, _, rfl, sl_rows hq fun p1 H1 x1 hp1 => ⟨_, rfl, _, rfl, _, rfl, _, rfl, by have := hz.len; omega, by show 1 ≤ sizeLine; decide, fun p2 n2 => ?_⟩⟩
    rw [cutL_to] at hp1
    have y2 : Same H1 (upd H1 p2 (.tup [.str (zT (r.getD c nilS) k)])) := same_new n2
    refine cat_rows (xs := r.take c) (ys := [zT (r.getD c nilS) k]) (same_sqT y2 hp1) (SqT.of upd_same) (by rw [List.length_take, List.length_singleton]; omega) fun p3 H3 x3 hp3 => ?_
    refine ⟨_, rfl, _, rfl, _, rfl, _, rfl, by have := hz.len; omega, by show 1 ≤ sizeLine; decide, fun p4 n4 => ?_⟩
    have y4 : Same H3 (upd H3 p4 (.tup [.str (zD (r.getD c nilS) k)])) := same_new n4
    have x4 := same_tr (same_tr (same_tr x1 y2) x3) y4
    refine ⟨_, rfl, _, rfl, _, _, rfl, rfl, _, rfl, ?_⟩
    simp only [tNoPart]
    refine sl_rows (same_sqT x4 hq) fun p5 H5 x5 hp5 => ?_
    rw [show ((c : Nat) : Int) + 1 = ((c + 1 : Nat) : Int) by omega, cutL_from] at hp5
    refine cat_rows (xs := [zD (r.getD c nilS) k]) (ys := r.drop (c + 1)) (same_sqT x5 (SqT.of upd_same)) hp5 (by rw [List.length_drop, List.length_singleton]; omega) fun p6 H6 x6 hp6 => ?_
    refine ⟨by show 2 ≤ sizeLine; decide, fun t nt => ?_⟩
    have y7 : Same H6 (upd H6 t (.tup [.ref p3, .ref p6])) := same_new nt
    exact kq t p3 p6 _ (same_tr (same_tr (same_tr x4 x5) x6) y7) upd_same (same_sqT (same_tr (same_tr (same_tr y4 x5) x6) y7) hp3) (same_sqT y7 hp6)
theorem sc_join : FnScope ["ahead", "behind"] ["ahead", "behind"] (defScope s_joined) := ⟨rfl, rfl, rfl, by decide +kernel, rfl, by decide +kernel, by decide +kernel⟩
def spJoin (K : PySem.W.Frag) : Sp := fun vs H Q _ => ∃ (a b : Addr) (xs ys : List Str), vs = [.ref a, .ref b] ∧ SqT K H a (sV xs) ∧ SqT K H b (sV ys) ∧ RowL xs 100 100 ∧ RowL ys 100 100 ∧ ∀ (p : Addr) (H' : Hp), Same H H' → SqT K H' p (sV (joinR xs ys)) → Q (.ref p) H'
theorem ok_join {f : Addr} {fd : FuncData} (F : Fun K "joined" "joined" s_joined f fd) : FnOk P w K mg base CX0 1 f fd ["ahead", "behind"] (spJoin K) := by
  refine F.ok sc_join (fun vs H Q E h => ?_) (fun cdv A outer s H vs Q E hr h => ?_)
  · obtain ⟨a, b, xs, ys, rfl, _⟩ := h
    rfl
  · obtain ⟨a, b, xs, ys, rfl, ha, hb, hx, hy, kq⟩ := h
    refine ⟨_, pss_one (ps_ret (pe_op op_catA (pe_op op_catA (pe_slice sl_tupA (pv 0) po_none (po_some (pe_un un_neg pe_int))) (pe_tup (pa_cons (pe_op op_add_str (pe_ix ix_tup (pv 0) (pe_un un_neg pe_int) (fun _ _ => rfl)) (pe_ix ix_tup (pv 1) pe_int (fun _ _ => rfl))) pa_nil)))
      (pe_slice sl_tupA (pv 1) (po_some pe_int) po_none))), ?_⟩
    have szl : (1000 : Nat) < sizeLine := by decide
    have l1 := hx.len
    have l2 := hy.len
    have c1 := (hx.cells _ (last_mem hx.pos)).len
    have c2 := (hy.cells _ (head_mem hy.pos)).len
    refine ⟨_, rfl, 1, rfl, -1, rfl, sl_rows ha fun p1 H1 x1 hp1 => ?_⟩
    rw [cutL_last _ hx.pos] at hp1
    refine ⟨_, rfl, 1, rfl, a, _, _, _, rfl, rfl, same_sqT x1 ha, atZ_last hx.pos, _, rfl, b, _, _, _, rfl, rfl, same_sqT x1 hb, atZ_head hy.pos, _, _, rfl, rfl, by omega, by show 1 ≤ sizeLine; decide, fun p2 n2 => ?_⟩
    have y2 : Same H1 (upd H1 p2 (.tup [.str (xs.getLast?.getD nilS ++ ys.headD nilS)])) := same_new n2
    refine cat_rows (xs := xs.dropLast) (ys := [xs.getLast?.getD nilS ++ ys.headD nilS]) (same_sqT y2 hp1) (SqT.of upd_same) (by rw [List.length_dropLast, List.length_singleton]; omega) fun p3 H3 x3 hp3 => ?_
    have x4 := same_tr (same_tr x1 y2) x3
    refine ⟨_, rfl, 1, rfl, ?_⟩
    simp only [tNoPart]
    refine sl_rows (same_sqT x4 hb) fun p5 H5 x5 hp5 => ?_
    rw [show (1 : Int) = ((1 : Nat) : Int) from rfl, cutL_from, List.drop_one] at hp5
    refine cat_rows (xs := xs.dropLast ++ [xs.getLast?.getD nilS ++ ys.headD nilS]) (ys := ys.tail) (same_sqT x5 hp3) hp5 (by rw [List.length_append, List.length_dropLast, List.length_singleton, List.length_tail]; omega) fun p6 H6 x6 hp6 => ?_
    refine kq p6 H6 (same_tr (same_tr x4 x5) x6) ?_
    unfold joinR
    rw [List.append_assoc] at hp6
    exact hp6
theorem sc_less : FnScope ["row"] ["row"] (defScope s_without_first) := ⟨rfl, rfl, rfl, by decide +kernel, rfl, by decide +kernel, by decide +kernel⟩
def spLess (K : PySem.W.Frag) (C : Addr) : Sp := fun vs H Q E => ∃ (a : Addr) (r : List Str), vs = [.ref a] ∧ SqT K H a (sV r) ∧ RowL r 100 100 ∧ (∀ r', lessR r = some r' → ∀ (p : Addr) (H' : Hp), Same H H' → SqT K H' p (sV r') → Q (.ref p) H') ∧ (lessR r = none → E (.ref C) none H)
theorem ok_less {f : Addr} {fd : FuncData} (T : Txt mg) (Er : SErr K mg R C G) (F : Fun K "without_first" "without_first" s_without_first f fd) : FnOk P w K mg base (L2.CX P w) 1 f fd ["row"] (spLess K C) := by
  refine F.okX sc_less (fun vs H Q E h => ?_) (fun cdv A outer s H vs Q E hr h => ?_)
  · obtain ⟨a, r, rfl, _⟩ := h
    rfl
  · obtain ⟨a, r, rfl, ha, hL, k1, k2⟩ := h
    refine ⟨_, pss_cons (ps_if (pt_cmpR op_ne (pe_ix ix_tup (pv 0) pe_int (fun _ _ => rfl)) pe_str (nomark _))
        (pss_one (ps_ret (pe_op op_catA (pe_tup (pa_cons (pe_slice sl_str (pe_ix ix_tup (pv 0) pe_int (fun _ _ => rfl)) (po_some pe_int) po_none) pa_nil)) (pe_slice sl_tupA (pv 0) (po_some pe_int) po_none)))) pss_nil)
      (pss_cons (ps_if (pt_cmpR op_eq (pe_callB call_len_seq (by rfl) T.len PySem.boot_len (pa_cons (pv 0) pa_nil)) pe_int (nomark _))
        (pss_one (ps_raise rfl (takes_of rfl rfl rfl rfl) (pmk_own PySem.F.excBase_ValueError Er.cell.exc Er.cell.mg_ Er.cell.kp (raises_own Er.cell.sub Er.cell.ty) rfl))) pss_nil)
      (pss_one (ps_ret (pe_slice sl_tupA (pv 0) (po_some pe_int) po_none)))), ?_⟩
    have szl : (1000 : Nat) < sizeLine := by decide
    have l1 := hL.len
    have c1 := (hL.cells _ (head_mem hL.pos)).len
    have lr : (sV r).length = r.length := List.length_map ..
    refine ⟨_, rfl, a, _, _, _, rfl, rfl, ha, atZ_head hL.pos, rfl, _, rfl, ?_⟩
    rw [vstr_ne]
    unfold lessR at k1 k2
    by_cases h : r.headD nilS ≠ nilS
    · rw [decide_eq_true (show r.headD nilS ≠ ("" : Str) from h)]
      rw [if_pos h] at k1
      refine iteT ⟨_, rfl, a, _, _, _, rfl, rfl, ha, atZ_head hL.pos, 1, rfl, _, rfl, by omega, by show 1 ≤ sizeLine; decide, fun p2 n2 => ?_⟩
      have y2 : Same H (upd H p2 (.tup [.str (zD (r.headD nilS) 1)])) := same_new n2
      refine ⟨_, rfl, 1, rfl, ?_⟩
      simp only [tNoPart]
      refine sl_rows (same_sqT y2 ha) fun p3 H3 x3 hp3 => ?_
      rw [show (1 : Int) = ((1 : Nat) : Int) from rfl, cutL_from, List.drop_one] at hp3
      refine cat_rows (xs := [zD (r.headD nilS) 1]) (ys := r.tail) (same_sqT x3 (SqT.of upd_same)) hp3 (by rw [List.length_tail, List.length_singleton]; omega) fun p6 H6 x6 hp6 => ?_
      exact k1 _ rfl p6 H6 (same_tr (same_tr y2 x3) x6) hp6
    · rw [decide_eq_false (show ¬ (r.headD nilS ≠ ("" : Str)) from h)]
      rw [if_neg h] at k1 k2
      refine iteF ⟨_, rfl, a, _, rfl, .inr ha, rfl, _, rfl, ?_⟩
      rw [lr]
      by_cases h1 : r.length = 1
      · rw [if_pos h1] at k2
        rw [decide_eq_true (by rw [h1]; rfl)]
        exact iteT (k2 rfl)
      · rw [if_neg h1] at k1
        rw [decide_eq_false (fun z => h1 (by injection z with z; omega))]
        refine iteF ⟨_, rfl, 1, rfl, ?_⟩
        simp only [tNoPart]
        refine sl_rows ha fun p3 H3 x3 hp3 => ?_
        rw [show (1 : Int) = ((1 : Nat) : Int) from rfl, cutL_from, List.drop_one] at hp3
        exact k1 _ rfl p3 H3 x3 hp3
end
end TGK

namespace TGK
open TG
open PySem PySem.Spec PyProof.Rows L2 Gx EnT
/-! ### the cells that moved -/
abbrev v4 (row i : Nat) (a b : Int) : List V := [.int (row : Nat), .int (i : Nat), .int a, .int b]
def movTo (a b : List Int) (row n : Nat) : List (List V) := (List.range n).filterMap fun i => if a.getD i 0 ≠ b.getD i 0 then some (v4 row i (a.getD i 0) (b.getD i 0)) else none
def movP (a b : List Int) (row : Nat) : List (List V) := movTo a b row a.length
def movL (f g : Nat → List Int) (l : List (Nat × Nat)) : List (List V) := l.flatMap fun p => movP (f p.1) (g p.2) p.2
theorem movTo_succ (a b : List Int) (row n : Nat) : movTo a b row (n + 1) = movTo a b row n ++ if a.getD n 0 ≠ b.getD n 0 then [v4 row n (a.getD n 0) (b.getD n 0)] else [] := by
  unfold movTo
  rw [List.range_succ, List.filterMap_append]
  congr 1
  by_cases h : a.getD n 0 ≠ b.getD n 0
  · rw [if_pos h]
    simp only [List.filterMap_cons, List.filterMap_nil, if_pos h]
  · rw [if_neg h]
    simp only [List.filterMap_cons, List.filterMap_nil, if_neg h]
theorem movTo_len (a b : List Int) (row n : Nat) : (movTo a b row n).length ≤ n := by
  unfold movTo
  exact Nat.le_trans (List.length_filterMap_le ..) (by rw [List.length_range]; exact Nat.le_refl _)
theorem movL_len {f g : Nat → List Int} : ∀ {l : List (Nat × Nat)}, (∀ p ∈ l, (f p.1).length ≤ 6) → (movL f g l).length ≤ 6 * l.length
  | [], _ => by simp [movL]
  | p :: l, h => by
    have ih := movL_len (g := g) fun q hq => h q (List.mem_cons_of_mem _ hq)
    have h1 := h p (List.mem_cons_self ..)
    have h2 := movTo_len (f p.1) (g p.2) p.2 (f p.1).length
    have e : movL f g (p :: l) = movP (f p.1) (g p.2) p.2 ++ movL f g l := by unfold movL; rw [List.flatMap_cons]
    have e2 : (movP (f p.1) (g p.2) p.2).length ≤ (f p.1).length := h2
    rw [e, List.length_append, List.length_cons]
    omega
theorem movL_take {f g : Nat → List Int} {l : List (Nat × Nat)} {n : Nat} {p : Nat × Nat} (h : l[n]? = some p) : movL f g (l.take (n + 1)) = movL f g (l.take n) ++ movP (f p.1) (g p.2) p.2 := by
  unfold movL
  rw [List.take_add_one, h, List.flatMap_append]
  simp
section
variable {P : Program} {w : World} {K : PySem.W.Frag} {mg : Str → Option Value} {base : Heap} {cs : List (Addr × Addr)} {R C G : Addr}
/-- a list of new pairs -/
structure PairL (H : Hp) (o : Addr) (l : List (Nat × Nat)) : Prop where
  ts : ∃ ts : List Addr, H o = some (.lst (ts.map V.ref)) ∧ ts.length = l.length ∧ ∀ (j : Nat) (t : Addr) (p : Nat × Nat), ts[j]? = some t → l[j]? = some p → H t = some (.tup [.int (p.1 : Nat), .int (p.2 : Nat)])
theorem PairL.same {H H' : Hp} {o : Addr} {l : List (Nat × Nat)} (x : Same H H') (h : PairL H o l) : PairL H' o l := by
  obtain ⟨ts, h1, h2, h3⟩ := h.ts
  exact ⟨ts, x _ _ h1, h2, fun j t p e1 e2 => x _ _ (h3 j t p e1 e2)⟩
def spMov : Sp := fun vs H Q _ => ∃ (r0 r1 o : Addr) (es0 es1 : List Addr) (f g : Nat → List Int) (n0 n1 : Nat) (l : List (Nat × Nat)), vs = [.ref r0, .ref r1, .ref o] ∧ ToldAt H r0 es0 f n0 ∧ ToldAt H r1 es1 g n1 ∧ PairL H o l ∧
  (∀ p ∈ l, p.1 < n0 ∧ p.2 < n1 ∧ (f p.1).length = (g p.2).length ∧ (f p.1).length ≤ 6) ∧ l.length ≤ 60 ∧ ∀ (D : Addr) (H' : Hp), TupL H D (movL f g l) H' → Q (.ref D) H'
abbrev nmMov : List Str := ["before", "after", "others", "told", "was", "row", "cell", "began", "begins"]
theorem sc_mov : FnScope nmMov ["before", "after", "others"] (defScope s_pmoved) := ⟨rfl, rfl, rfl, by decide +kernel, rfl, by decide +kernel, by decide +kernel⟩
theorem vint_ne {a b : Int} : (!decide (V.int a = V.int b)) = decide (a ≠ b) := by
  by_cases h : a = b
  · rw [decide_eq_true (by rw [h]), decide_eq_false (by simp [h])]
    rfl
  · rw [decide_eq_false (fun z => h (by injection z)), decide_eq_true h]
    rfl
theorem TupL.lst {H0 H : Hp} {D : Addr} {l : List (List V)} (o : TupL H0 D l H) : ∃ acc, H D = some (.lst acc) ∧ acc.length = l.length := by
  obtain ⟨ts, h1, h2, _⟩ := o.ts
  exact ⟨_, h1, by rw [List.length_map, h2]⟩
theorem ok_mov {f : Addr} {fd : FuncData} (T : Txt mg) (hz : mg "zip" = none) (F : Fun K "moved" "moved" s_pmoved f fd) : FnOk P w K mg base CX0 1 f fd ["before", "after", "others"] spMov := by
  refine F.ok sc_mov (fun vs H Q E h => ?_) (fun cdv A outer s H vs Q E hr h => ?_)
  · obtain ⟨r0, r1, o, es0, es1, f, g, n0, n1, l, rfl, _⟩ := h
    rfl
  · obtain ⟨r0, r1, o, es0, es1, f, g, n0, n1, l, rfl, h0, h1, hL, hl, h60, kq⟩ := h
    have nd := sc_mov.nd
    refine ⟨_, pss_cons (ps_set (i := 3) nd rfl (.inl rfl) (pe_lst pa_nil))
      (pss_cons (ps_for PassesOwn.never rfl (pi_list (pv 2)) (pg_tup rfl (pgs_cons (pg_name (i := 4) nd rfl (.inl rfl)) (pgs_cons (pg_name (i := 5) nd rfl (.inl rfl)) pgs_nil)))
        (pss_one (ps_for PassesOwn.never rfl (pi_enumZip (by rfl) T.enum (by rfl) hz (pa_cons (pe_ix ix_list (pv 0) (pv 4) (fun _ _ => rfl)) (pa_cons (pe_ix ix_list (pv 1) (pv 5) (fun _ _ => rfl)) pa_nil)))
          (pg_tup rfl (pgs_cons (pg_name (i := 6) nd rfl (.inl rfl)) (pgs_cons (pg_tup rfl (pgs_cons (pg_name (i := 7) nd rfl (.inl rfl)) (pgs_cons (pg_name (i := 8) nd rfl (.inl rfl)) pgs_nil))) pgs_nil)))
          (pss_one (ps_if (pt_cmpR op_ne (pv 7) (pv 8) (nomark _)) (pss_one (ps_expr (pe_bm PySem.F.plainAttrs_list PySem.F.slot_list_append PySem.F.type_list_append mt_append (pv 3) (pa_cons (pe_tup (pa_cons (pv 5) (pa_cons (pv 6) (pa_cons (pv 7) (pa_cons (pv 8) pa_nil))))) pa_nil)))) pss_nil)))))
      (pss_one (ps_ret (pv 3)))), ?_⟩
    refine ⟨small0, fun D nD => ?_⟩
    have o0 := TupL.start nD
    have szl : (1000 : Nat) < sizeLine := by decide
    obtain ⟨ts, t1, t2, t3⟩ := id hL.ts
    refine ⟨_, rfl, o, rfl, ⟨_, SqL.of (o0.sm _ _ t1)⟩, for_list (xs := ts.map V.ref) (fun i σ H' => TupL H D (movL f g (l.take i)) H' ∧ ∃ c4 c5 c6 c7 c8 : Option V, σ = [some (.ref r0), some (.ref r1), some (.ref o), some (.ref D), c4, c5, c6, c7, c8]) ⟨o0, none, none, none, none, none, rfl⟩ (fun i σ H' _ x => SqL.of (x.1.sm _ _ t1)) ?_ ?_⟩
    · rintro i x σ H1 hx ⟨o1, c4, c5, c6, c7, c8, rfl⟩
      obtain ⟨t, ht, rfl⟩ := get_map hx
      obtain ⟨p, hp⟩ := getP (xs := l) (i := i) (by rw [← t2]; exact (List.getElem?_eq_some_iff.mp ht).1)
      have hi : i < l.length := (List.getElem?_eq_some_iff.mp hp).1
      obtain ⟨q1, q2, q3, q4⟩ := hl p (List.mem_of_getElem? hp)
      have htt := o1.sm _ _ (t3 i t p ht hp)
      obtain ⟨e0, he0⟩ := getP (xs := es0) (i := p.1) (by rw [h0.len]; exact q1)
      obtain ⟨e1, he1⟩ := getP (xs := es1) (i := p.2) (by rw [h1.len]; exact q2)
      have a0 := h0.at_ p.1 e0 he0
      have a1 := h1.at_ p.2 e1 he1
      refine ⟨t, _, rfl, SqT.of htt, rfl, _, _, rfl, _, _, rfl, rfl, ?_⟩
      refine ⟨_, rfl, _, rfl, r0, _, _, .ref e0, rfl, rfl, SqL.of (o1.sm _ _ h0.lst), atI_nat (by rw [List.getElem?_map, he0]; rfl), _, rfl, _, rfl, r1, _, _, .ref e1, rfl, rfl, SqL.of (o1.sm _ _ h1.lst), atI_nat (by rw [List.getElem?_map, he1]; rfl), ?_⟩
      refine ⟨e0, e1, _, _, rfl, SqL.of (o1.sm _ _ a0), SqL.of (o1.sm _ _ a1), ?_⟩
      refine for_it (walk_ez (xs := (f p.1).map V.int) (ys := (g p.2).map V.int) (by rw [List.length_map, List.length_map, q3])) (fun j σ H' => TupL H D (movL f g (l.take i) ++ movTo (f p.1) (g p.2) p.2 j) H' ∧ ∃ c6 c7 c8 : Option V, σ = [some (.ref r0), some (.ref r1), some (.ref o), some (.ref D), some (.int (p.1 : Nat)), some (.int (p.2 : Nat)), c6, c7, c8]) ⟨by simpa [movTo] using o1, c6, c7, c8, rfl⟩ (fun j σ H' _ x => ⟨SqL.of (x.1.sm _ _ a0), SqL.of (x.1.sm _ _ a1)⟩) ?_ ?_
      · rintro j v σ H2 H3 hj ⟨o2, c6, c7, c8, rfl⟩ ⟨S, T', x, y, rfl, nS, nT, rfl, hx, hy⟩
        obtain ⟨xa, hxa, rfl⟩ := get_map hx
        obtain ⟨ya, hya, rfl⟩ := get_map hy
        have exa : (f p.1).getD j 0 = xa := by rw [List.getD_eq_getElem?_getD, hxa]; rfl
        have eya : (g p.2).getD j 0 = ya := by rw [List.getD_eq_getElem?_getD, hya]; rfl
        have x3 := same_tr (same_new (o := .tup [.int xa, .int ya]) nS) (same_new (o := .tup [.int (j : Nat), .ref S]) nT)
        have hS : upd (upd H2 S (.tup [.int xa, .int ya])) T' (.tup [.int (j : Nat), .ref S]) S = some (.tup [.int xa, .int ya]) := by rw [upd_ne (ne_of_none upd_same nT), upd_same]
        have o3 := o2.grow x3
        have hT3 : upd (upd H2 S (.tup [.int xa, .int ya])) T' (.tup [.int (j : Nat), .ref S]) T' = some (.tup [.int (j : Nat), .ref S]) := upd_same
        generalize upd (upd H2 S (.tup [.int xa, .int ya])) T' (.tup [.int (j : Nat), .ref S]) = H3 at x3 hS o3 hT3 ⊢
        refine ⟨T', _, rfl, SqT.of hT3, rfl, _, _, rfl, _, _, rfl, ⟨S, _, rfl, SqT.of hS, rfl, _, _, rfl, _, _, rfl, rfl, rfl, ?_⟩⟩
        refine ⟨_, rfl, _, rfl, rfl, _, rfl, ?_⟩
        rw [vint_ne, movTo_succ, exa, eya]
        have hj2 : j < 6 := by have := hj; rw [List.length_map] at this; omega
        by_cases hne : xa ≠ ya
        · rw [decide_eq_true hne, if_pos hne]
          obtain ⟨acc0, w1, _⟩ := o3.lst
          refine iteT ⟨_, rfl, .inl ⟨rfl, _, SqL.of w1⟩, _, rfl, _, rfl, _, rfl, _, rfl, by show 4 ≤ sizeLine; decide, fun t4 nt4 => ?_⟩
          have o4 := o3.grow (same_new (o := .tup (v4 p.2 j xa ya)) nt4)
          obtain ⟨acc, w1, w2, w3⟩ := o4.more (t := t4) (v := v4 p.2 j xa ya) upd_same
          refine ⟨D, acc, _, rfl, rfl, w1, ?_, ?_⟩
          · have b1 := movTo_len (f p.1) (g p.2) p.2 j
            have b2 := movL_len (f := f) (g := g) (l := l.take i) fun q hq => (hl q (List.mem_of_mem_take hq)).2.2.2
            rw [List.length_take] at b2
            rw [w2, List.length_append]
            omega
          · rw [List.append_assoc] at w3
            exact ⟨w3, _, _, _, rfl⟩
        · rw [decide_eq_false hne, if_neg hne, List.append_nil]
          exact iteF ⟨o3, _, _, _, rfl⟩
      · rintro σ H2 ⟨o2, c6, c7, c8, rfl⟩
        refine ⟨?_, _, _, _, _, _, rfl⟩
        rw [movL_take hp]
        rw [List.length_map] at o2
        exact o2
    · rintro σ H1 ⟨o1, c4, c5, c6, c7, c8, rfl⟩
      rw [List.length_map, t2, List.take_of_length_le (Nat.le_refl _)] at o1
      exact ⟨_, rfl, kq D H1 o1⟩
end
end TGK

namespace TGK
open TG
open PySem PySem.Spec PyProof.Rows L2 Gx EnT
/-! ### a sheet, and the deeds that stand -/
def clsB : Stmt → List Stmt
  | .ClassDef _ _ _ b _ _ _ _ _ _ _ => b
  | _ => []
def mth (c i : Nat) : Stmt := (clsB (top c)).getD i (.Pass ⟨0, 0, 0, 0⟩)
/-- all but two lists stay -/
def NT (cs : List (Addr × Addr)) (c : Addr) (o : HO) : Prop := (∀ ps, o ≠ .tbl ps) ∨ ∀ p ∈ cs, p.2 ≠ c
def XN (cs : List (Addr × Addr)) (H H' : Hp) : Prop := ∀ b o, H b = some o → NT cs b o → H' b = some o
theorem xn_ex {cs : List (Addr × Addr)} {H H' : Hp} (x : Ex cs H H') : XN cs H H' := fun b o h n => n.elim (fun z => x.ext b o h z) fun z => x.oth b o h z
theorem same_xn {cs : List (Addr × Addr)} {H H' : Hp} (x : Same H H') : XN cs H H' := fun b o h _ => x b o h
theorem xn_tr {cs : List (Addr × Addr)} {H H1 H' : Hp} (x : XN cs H H1) (y : XN cs H1 H') : XN cs H H' := fun b o h n => y b o (x b o h n) n
def ExtS (cs : List (Addr × Addr)) (rl dl : Addr) (H H' : Hp) : Prop := ∀ b o, H b = some o → NT cs b o → b ≠ rl → b ≠ dl → H' b = some o
theorem ExtS.of {cs : List (Addr × Addr)} {rl dl : Addr} {H H' : Hp} (x : XN cs H H') : ExtS cs rl dl H H' := fun b o h n _ _ => x b o h n
theorem ExtS.tr {cs : List (Addr × Addr)} {rl dl : Addr} {H H1 H' : Hp} (x : ExtS cs rl dl H H1) (y : ExtS cs rl dl H1 H') : ExtS cs rl dl H H' := fun b o h n m1 m2 => y b o (x b o h n m1 m2) n m1 m2
theorem ExtS.gw {cs : List (Addr × Addr)} {rl dl : Addr} {H H1 H' : Hp} (x : ExtS cs rl dl H H1) (y : XN cs H1 H') : ExtS cs rl dl H H' := fun b o h n m1 m2 => y b o (x b o h n m1 m2) n
theorem ExtS.after {cs : List (Addr × Addr)} {rl dl : Addr} {H H1 H' : Hp} (x : XN cs H H1) (y : ExtS cs rl dl H1 H') : ExtS cs rl dl H H' := fun b o h n m1 m2 => y b o (x b o h n) n m1 m2
theorem sqT_exs {K : PySem.W.Frag} {H H' : Hp} {a rl dl : Addr} {xs us ws : List V} {cs : List (Addr × Addr)} (x : ExtS cs rl dl H H') (h1 : H rl = some (.lst us)) (h2 : H dl = some (.lst ws)) (h : SqT K H a xs) : SqT K H' a xs := by
  rcases h with (h | ⟨u, h⟩) | h
  · exact .inl (.inl (x _ _ h (.inl fun ps z => by cases z) (fun z => by rw [z, h1] at h; cases h) fun z => by rw [z, h2] at h; cases h))
  · exact .inl (.inr ⟨u, x _ _ h (.inl fun ps z => by cases z) (fun z => by rw [z, h1] at h; cases h) fun z => by rw [z, h2] at h; cases h⟩)
  · exact .inr h
theorem tup_exs {H H' : Hp} {t rl dl : Addr} {xs us ws : List V} {cs : List (Addr × Addr)} (x : ExtS cs rl dl H H') (h1 : H rl = some (.lst us)) (h2 : H dl = some (.lst ws)) (h : H t = some (.tup xs)) : H' t = some (.tup xs) :=
  x _ _ h (.inl fun ps z => by cases z) (fun z => by rw [z, h1] at h; cases h) fun z => by rw [z, h2] at h; cases h
theorem RowsAt.exs {K : PySem.W.Frag} {H H' : Hp} {rl dl : Addr} {us ws : List V} {as : List Addr} {rows : List (List Str)} {cs : List (Addr × Addr)} (x : ExtS cs rl dl H H') (h1 : H rl = some (.lst us)) (h2 : H dl = some (.lst ws)) (p : RowsAt K H as rows) : RowsAt K H' as rows := ⟨p.len, fun i q r e1 e2 => sqT_exs x h1 h2 (p.row i q r e1 e2)⟩
theorem RowsAt.gw {K : PySem.W.Frag} {H H' : Hp} {as : List Addr} {rows : List (List Str)} (x : LamX.ExtN H H') (p : RowsAt K H as rows) : RowsAt K H' as rows := ⟨p.len, fun i q r e1 e2 => by
  rcases p.row i q r e1 e2 with (h | ⟨u, h⟩) | h
  · exact .inl (.inl (x _ _ h fun ps z => by cases z))
  · exact .inl (.inr ⟨u, x _ _ h fun ps z => by cases z⟩)
  · exact .inr h⟩
theorem _root_.TG.StyleAt.exs {K : PySem.W.Frag} {H H' : Hp} {rl dl st : Addr} {us ws : List V} {gap least : Int} {cs : List (Addr × Addr)} (x : ExtS cs rl dl H H') (h1 : H rl = some (.lst us)) (h2 : H dl = some (.lst ws)) (p : StyleAt K H st gap least) : StyleAt K H' st gap least := ⟨sqT_exs x h1 h2 p.tup, p.g0, p.g1, p.l0, p.l1⟩
theorem _root_.TG.StyleAt.gwN {K : PySem.W.Frag} {H H' : Hp} {a : Addr} {gap least : Int} (p : StyleAt K H a gap least) (x : LamX.ExtN H H') : StyleAt K H' a gap least := ⟨by
  rcases p.tup with (h | ⟨u, h⟩) | h
  · exact .inl (.inl (x _ _ h fun ps z => by cases z))
  · exact .inl (.inr ⟨u, x _ _ h fun ps z => by cases z⟩)
  · exact .inr h, p.g0, p.g1, p.l0, p.l1⟩
theorem RowsAt.app {K : PySem.W.Frag} {H : Hp} {as bs : List Addr} {rows ss : List (List Str)} (p : RowsAt K H as rows) (q : RowsAt K H bs ss) : RowsAt K H (as ++ bs) (rows ++ ss) := by
  refine ⟨by rw [List.length_append, List.length_append, p.len, q.len], fun i a r e1 e2 => ?_⟩
  by_cases h : i < as.length
  · rw [List.getElem?_append_left h] at e1
    rw [List.getElem?_append_left (by rw [← p.len]; exact h)] at e2
    exact p.row i a r e1 e2
  · rw [List.getElem?_append_right (by omega)] at e1
    rw [List.getElem?_append_right (by rw [← p.len]; omega), ← p.len] at e2
    exact q.row _ a r e1 e2
theorem RowsAt.take {K : PySem.W.Frag} {H : Hp} {as : List Addr} {rows : List (List Str)} (p : RowsAt K H as rows) (n : Nat) : RowsAt K H (as.take n) (rows.take n) := by
  refine ⟨by rw [List.length_take, List.length_take, p.len], fun i a r e1 e2 => ?_⟩
  rw [List.getElem?_take] at e1 e2
  by_cases h : i < n
  · rw [if_pos h] at e1 e2
    exact p.row i a r e1 e2
  · rw [if_neg h] at e1
    cases e1
theorem RowsAt.drop {K : PySem.W.Frag} {H : Hp} {as : List Addr} {rows : List (List Str)} (p : RowsAt K H as rows) (n : Nat) : RowsAt K H (as.drop n) (rows.drop n) := by
  refine ⟨by rw [List.length_drop, List.length_drop, p.len], fun i a r e1 e2 => ?_⟩
  rw [List.getElem?_drop] at e1 e2
  exact p.row _ a r e1 e2
/-- some in the place of so many from a number on -/
def splice {α : Type} (xs : List α) (n m : Nat) (new : List α) : List α := xs.take n ++ new ++ xs.drop (n + m)
theorem RowsAt.splice {K : PySem.W.Frag} {H : Hp} {as bs : List Addr} {rows new : List (List Str)} {n m : Nat} (p : RowsAt K H as rows) (q : RowsAt K H bs new) : RowsAt K H (splice as n m bs) (splice rows n m new) := ((p.take n).app q).app (p.drop (n + m))
theorem splice_len {α : Type} {xs new : List α} {n m : Nat} (h : n + m ≤ xs.length) : (splice xs n m new).length = xs.length - m + new.length := by
  unfold splice
  rw [List.length_append, List.length_append, List.length_take, List.length_drop]
  omega
theorem splice_back {α : Type} {xs new : List α} {n m : Nat} (h : n + m ≤ xs.length) : splice (splice xs n m new) n new.length ((xs.drop n).take m) = xs := by
  unfold splice
  have l1 : (xs.take n).length = n := by rw [List.length_take]; omega
  have e1 : (xs.take n ++ new ++ xs.drop (n + m)).take n = xs.take n := by
    rw [List.append_assoc, List.take_append_of_le_length (by omega), List.take_of_length_le (by omega)]
  have e2 : (xs.take n ++ new ++ xs.drop (n + m)).drop (n + new.length) = xs.drop (n + m) := by
    rw [List.drop_append_of_le_length (by rw [List.length_append]; omega), List.drop_eq_nil_of_le (by rw [List.length_append]; omega), List.nil_append]
  rw [e1, e2, List.append_assoc]
  have e3 : (xs.drop n).take m ++ xs.drop (n + m) = xs.drop n := by
    rw [← List.drop_drop]
    exact List.take_append_drop m (xs.drop n)
  rw [e3]
  exact List.take_append_drop n xs
/-- the deeds that stand, the last one first: where, how many rows it laid, and those that were there; the pages ahead of them -/
def PastAt (K : PySem.W.Frag) (H : Hp) (rl dl : Addr) (av : Addr → Prop) : List Addr → List Addr → List (List (List Str)) → Prop
  | _, [], [] => True
  | as, t :: ts, rows :: ps => (∃ (n m : Nat) (oas : List Addr) (l : Addr), H t = some (.tup [.int (n : Nat), .int (m : Nat), .ref l]) ∧ H l = some (.lst (oas.map V.ref)) ∧ l ≠ rl ∧ l ≠ dl ∧ ¬ av l ∧ n + m ≤ as.length ∧ oas.length ≤ 30 ∧ RowsAt K H (splice as n m oas) rows ∧ PgOk rows ∧ PastAt K H rl dl av (splice as n m oas) ts ps)
  | _, _, _ => False
theorem PastAt.exs {K : PySem.W.Frag} {H H' : Hp} {rl dl : Addr} {av : Addr → Prop} {us ws : List V} {cs : List (Addr × Addr)} (x : ExtS cs rl dl H H') (h1 : H rl = some (.lst us)) (h2 : H dl = some (.lst ws)) : ∀ {ts : List Addr} {as : List Addr} {ps : List (List (List Str))}, PastAt K H rl dl av as ts ps → PastAt K H' rl dl av as ts ps
  | [], _, [], _ => by unfold PastAt; trivial
  | [], _, _ :: _, h => by unfold PastAt at h; exact h.elim
  | _ :: _, _, [], h => by unfold PastAt at h; exact h.elim
  | t :: ts, as, rows :: ps, h => by
    unfold PastAt at h ⊢
    obtain ⟨n, m, oas, l, g1, g2, g3, g4, ga, g5, g6, g7, g8, g9⟩ := h
    exact ⟨n, m, oas, l, tup_exs x h1 h2 g1, x _ _ g2 (.inl fun ps z => by cases z) g3 g4, g3, g4, ga, g5, g6, g7.exs x h1 h2, g8, PastAt.exs x h1 h2 g9⟩
theorem PastAt.gw {K : PySem.W.Frag} {H H' : Hp} {rl dl : Addr} {av : Addr → Prop} (x : LamX.ExtN H H') : ∀ {ts : List Addr} {as : List Addr} {ps : List (List (List Str))}, PastAt K H rl dl av as ts ps → PastAt K H' rl dl av as ts ps
  | [], _, [], _ => by unfold PastAt; trivial
  | [], _, _ :: _, h => by unfold PastAt at h; exact h.elim
  | _ :: _, _, [], h => by unfold PastAt at h; exact h.elim
  | t :: ts, as, rows :: ps, h => by
    unfold PastAt at h ⊢
    obtain ⟨n, m, oas, l, g1, g2, g3, g4, ga, g5, g6, g7, g8, g9⟩ := h
    exact ⟨n, m, oas, l, x _ _ g1 (fun ps z => by cases z), x _ _ g2 (fun ps z => by cases z), g3, g4, ga, g5, g6, g7.gw x, g8, PastAt.gw x g9⟩
theorem PastAt.len {K : PySem.W.Frag} {H : Hp} {rl dl : Addr} {av : Addr → Prop} : ∀ {ts : List Addr} {as : List Addr} {ps : List (List (List Str))}, PastAt K H rl dl av as ts ps → ts.length = ps.length
  | [], _, [], _ => rfl
  | [], _, _ :: _, h => by unfold PastAt at h; exact h.elim
  | _ :: _, _, [], h => by unfold PastAt at h; exact h.elim
  | t :: ts, as, rows :: ps, h => by
    unfold PastAt at h
    obtain ⟨n, m, oas, l, g1, g2, g3, g4, ga, g5, g6, g7, g8, g9⟩ := h
    rw [List.length_cons, List.length_cons, PastAt.len g9]
theorem PastAt.less {K : PySem.W.Frag} {H : Hp} {rl dl : Addr} {av av2 : Addr → Prop} (z : ∀ x, av2 x → av x) : ∀ {ts : List Addr} {as : List Addr} {ps : List (List (List Str))}, PastAt K H rl dl av as ts ps → PastAt K H rl dl av2 as ts ps
  | [], _, [], _ => by unfold PastAt; trivial
  | [], _, _ :: _, h => by unfold PastAt at h; exact h.elim
  | _ :: _, _, [], h => by unfold PastAt at h; exact h.elim
  | t :: ts, as, rows :: ps, h => by
    unfold PastAt at h ⊢
    obtain ⟨n, m, oas, l, g1, g2, g3, g4, ga, g5, g6, g7, g8, g9⟩ := h
    exact ⟨n, m, oas, l, g1, g2, g3, g4, fun q => ga (z _ q), g5, g6, g7, g8, PastAt.less z g9⟩
theorem PastAt.more {K : PySem.W.Frag} {H : Hp} {rl dl D : Addr} {av : Addr → Prop} (n : H D = none) : ∀ {ts : List Addr} {as : List Addr} {ps : List (List (List Str))}, PastAt K H rl dl av as ts ps → PastAt K H rl dl (fun x => av x ∨ x = D) as ts ps
  | [], _, [], _ => by unfold PastAt; trivial
  | [], _, _ :: _, h => by unfold PastAt at h; exact h.elim
  | _ :: _, _, [], h => by unfold PastAt at h; exact h.elim
  | t :: ts, as, rows :: ps, h => by
    unfold PastAt at h ⊢
    obtain ⟨n', m, oas, l, g1, g2, g3, g4, ga, g5, g6, g7, g8, g9⟩ := h
    exact ⟨n', m, oas, l, g1, g2, g3, g4, (fun q => q.elim ga fun e => by rw [e, n] at g2; cases g2), g5, g6, g7, g8, PastAt.more n g9⟩
/-- objects that stand and are no tables -/
def Live (H : Hp) (av : Addr → Prop) : Prop := ∀ x, av x → ∃ o, H x = some o ∧ ∀ ps, o ≠ .tbl ps
structure ShtD (K : PySem.W.Frag) (S : Addr) (H : Hp) (sh rl dl st : Addr) (as : List Addr) (rows : List (List Str)) (gap least : Int) (ts : List Addr) (ps : List (List (List Str))) (av : Addr → Prop) : Prop where
  she : ∃ dx, H sh = some (.ins S dx [("rows", .ref rl), ("style", .ref st), ("deeds", .ref dl)])
  rl_ : H rl = some (.lst (as.map V.ref))
  dl_ : H dl = some (.lst (ts.reverse.map V.ref))
  ne : rl ≠ dl
  at_ : RowsAt K H as rows
  ok : PgOk rows
  style : StyleAt K H st gap least
  past : PastAt K H rl dl av as ts ps
  live : Live H av
structure ShC (K : PySem.W.Frag) (S : Addr) : Prop where
  cS : Cls K S
  nRows : NoAttr K S "rows"
  nStyle : NoAttr K S "style"
  nDeeds : NoAttr K S "deeds"
section
variable {K : PySem.W.Frag} {S sh rl dl st : Addr} {H H' : Hp} {as : List Addr} {rows : List (List Str)} {gap least : Int} {ts : List Addr} {ps : List (List (List Str))} {av : Addr → Prop}
theorem ShtD.gw (o : ShtD K S H sh rl dl st as rows gap least ts ps av) (x : LamX.ExtN H H') : ShtD K S H' sh rl dl st as rows gap least ts ps av := by
  obtain ⟨dx, h1⟩ := o.she
  exact ⟨⟨dx, x _ _ h1 fun ps z => by cases z⟩, x _ _ o.rl_ (fun ps z => by cases z), x _ _ o.dl_ (fun ps z => by cases z), o.ne, o.at_.gw x, o.ok, o.style.gwN x, o.past.gw x, fun y hy => by
    obtain ⟨u, e, n⟩ := o.live y hy
    exact ⟨u, x _ _ e n, n⟩⟩
theorem ShtD.less {av2 : Addr → Prop} (o : ShtD K S H sh rl dl st as rows gap least ts ps av) (z : ∀ x, av2 x → av x) : ShtD K S H sh rl dl st as rows gap least ts ps av2 := ⟨o.she, o.rl_, o.dl_, o.ne, o.at_, o.ok, o.style, o.past.less z, fun y hy => o.live y (z y hy)⟩
theorem ShtD.live2 (o : ShtD K S H sh rl dl st as rows gap least ts ps av) {cs : List (Addr × Addr)} (x : ExtS cs rl dl H H') {us ws : List V} (h1 : H' rl = some (.lst us)) (h2 : H' dl = some (.lst ws)) : Live H' av := fun y hy => by
  obtain ⟨u, e, n⟩ := o.live y hy
  by_cases q1 : y = rl
  · exact ⟨_, by rw [q1]; exact h1, fun ps z => by cases z⟩
  · by_cases q2 : y = dl
    · exact ⟨_, by rw [q2]; exact h2, fun ps z => by cases z⟩
    · exact ⟨u, x _ _ e (.inl n) q1 q2, n⟩
theorem ShtD.new {D : Addr} {xs : List V} (o : ShtD K S H sh rl dl st as rows gap least ts ps av) (n : H D = none) (x : LamX.ExtN H H') (hD : H' D = some (.lst xs)) : ShtD K S H' sh rl dl st as rows gap least ts ps (fun y => av y ∨ y = D) := by
  have o2 := o.gw x
  exact ⟨o2.she, o2.rl_, o2.dl_, o2.ne, o2.at_, o2.ok, o2.style, (o.past.more n).gw x, fun y hy => by
    rcases hy with q | q
    · exact o2.live y q
    · exact ⟨.lst xs, by rw [q]; exact hD, fun ps z => by cases z⟩⟩
theorem ShtD.page (o : ShtD K S H sh rl dl st as rows gap least ts ps av) : PageAt K H rl as rows := ⟨SqL.of o.rl_, o.at_.len, o.at_.row⟩
theorem ShtD.ns (o : ShtD K S H sh rl dl st as rows gap least ts ps av) : sh ≠ rl ∧ sh ≠ dl := by
  obtain ⟨dx, h1⟩ := o.she
  exact ⟨(fun z => by rw [z, o.rl_] at h1; cases h1), (fun z => by rw [z, o.dl_] at h1; cases h1)⟩
end
section
variable {P : Program} {w : World} {K : PySem.W.Frag} {mg : Str → Option Value} {base : Heap} {cs : List (Addr × Addr)} {S : Addr}
/-- Sheet.page -/
def spShPage (K : PySem.W.Frag) (S : Addr) : Sp := fun vs H Q _ => ∃ (sh rl dl st : Addr) (as : List Addr) (rows : List (List Str)) (gap least : Int) (ts : List Addr) (ps : List (List (List Str))) (av : Addr → Prop), vs = [.ref sh] ∧ ShtD K S H sh rl dl st as rows gap least ts ps av ∧ ∀ r, H r = none → Q (.ref r) (upd H r (.lst (as.map V.ref)))
theorem sc_self : FnScope ["self"] ["self"] (defScope (mth nSheet 9)) := ⟨rfl, rfl, rfl, by decide +kernel, rfl, by decide +kernel, by decide +kernel⟩
theorem ok_shpage {f : Addr} {fd : FuncData} (T : Txt mg) (X : ShC K S) (F : Fun K "page" "Sheet.page" (mth nSheet 9) f fd) : FnOk P w K mg base CX0 1 f fd ["self"] (spShPage K S) := by
  refine F.ok sc_self (fun vs H Q E h => ?_) (fun cdv A outer s H vs Q E hr h => ?_)
  · obtain ⟨sh, rl, dl, st, as, rows, gap, least, ts, ps, av, rfl, _⟩ := h
    rfl
  · obtain ⟨sh, rl, dl, st, as, rows, gap, least, ts, ps, av, rfl, hS, k⟩ := h
    refine ⟨_, pss_one (ps_ret (pe_callTy call_list_of (by rfl) T.list (by decide +kernel) (pa_cons (pe_fld (pv 0) rfl) pa_nil))), ?_⟩
    obtain ⟨dx, h1⟩ := hS.she
    exact ⟨_, rfl, sh, S, dx, _, _, rfl, h1, X.cS, X.nRows, rfl, rl, _, rfl, .inl hS.page.lst, fun r nr => k r nr⟩
/-- Sheet.begins -/
def spShBegins (K : PySem.W.Frag) (cs : List (Addr × Addr)) (S : Addr) : Sp := fun vs H Q _ => ∃ (sh rl dl st : Addr) (as : List Addr) (rows : List (List Str)) (gap least : Int) (ts : List Addr) (ps : List (List (List Str))) (av : Addr → Prop), vs = [.ref sh] ∧ Tabs cs H ∧ ShtD K S H sh rl dl st as rows gap least ts ps av ∧
  ∀ (r : Addr) (es : List Addr) (H' : Hp), Ex cs H H' → H r = none → (∀ e ∈ es, H e = none ∧ e ≠ r) → ToldAt H' r es (begsR rows gap least) rows.length → Q (.ref r) H'
theorem sc_selfB : FnScope ["self"] ["self"] (defScope (mth nSheet 10)) := ⟨rfl, rfl, rfl, by decide +kernel, rfl, by decide +kernel, by decide +kernel⟩
theorem ok_shbegins {f g : Addr} {fd fdg : FuncData} (X : ShC K S) (F : Fun K "begins" "Sheet.begins" (mth nSheet 10) f fd)
    (G : FnOk P w K mg base CX0 14 g fdg ["page", "style"] (spTold K cs begsR)) (kp : PySem.W.keepIn K (.ref g) = true) (bd : Binds K fdg ["page", "style"] []) (mgg : mg "laid" = some (.ref g)) : FnOk P w K mg base CX0 15 f fd ["self"] (spShBegins K cs S) := by
  refine F.ok sc_selfB (fun vs H Q E h => ?_) (fun cdv A outer s H vs Q E hr h => ?_)
  · obtain ⟨sh, rl, dl, st, as, rows, gap, least, ts, ps, av, rfl, _⟩ := h
    rfl
  · obtain ⟨sh, rl, dl, st, as, rows, gap, least, ts, ps, av, rfl, hT, hS, k⟩ := h
    refine ⟨_, pss_one (ps_ret (pe_call G hr (by rfl) mgg kp bd .nil pass0 (pa_cons (pe_fld (pv 0) rfl) (pa_cons (pe_fld (pv 0) rfl) pa_nil)))), ?_⟩
    obtain ⟨dx, h1⟩ := hS.she
    exact ⟨_, rfl, sh, S, dx, _, _, rfl, h1, X.cS, X.nRows, rfl, _, rfl, sh, S, dx, _, _, rfl, h1, X.cS, X.nStyle, rfl, rl, st, as, rows, gap, least, rfl, hT, hS.page, hS.ok, hS.style, fun r es H' x nr ne tA => k r es H' x nr ne tA⟩
/-- Sheet.__init__ -/
def spShInit (K : PySem.W.Frag) (cs : List (Addr × Addr)) (S : Addr) : Sp := fun vs H Q _ => ∃ (sh a st dx : Addr) (as : List Addr) (rows : List (List Str)) (gap least : Int), vs = [.ref sh, .ref a, .ref st] ∧ Tabs cs H ∧ H sh = some (.ins S dx []) ∧ PageAt K H a as rows ∧ PgOk rows ∧ StyleAt K H st gap least ∧
  ∀ (rl dl : Addr) (H' : Hp), (∀ b o, H b = some o → NT cs b o → b ≠ sh → H' b = some o) → Tabs cs H' → (∀ b, H' b = none → H b = none) → ShtD K S H' sh rl dl st as rows gap least [] [] (fun _ => False) → H rl = none → H dl = none → Q .non H'
theorem sc_shinit : FnScope ["self", "page", "style"] ["self", "page", "style"] (defScope (mth nSheet 0)) := ⟨rfl, rfl, rfl, by decide +kernel, rfl, by decide +kernel, by decide +kernel⟩
theorem ok_shinit {f g1 g2 : Addr} {fd fd1 fd2 : FuncData} (T : Txt mg) (X : ShC K S) (F : Fun K "__init__" "Sheet.__init__" (mth nSheet 0) f fd)
    (G1 : FnOk P w K mg base CX0 11 g1 fd1 ["page"] (spCheck K cs)) (k1 : PySem.W.keepIn K (.ref g1) = true) (b1 : Binds K fd1 ["page"] []) (m1 : mg "check_page" = some (.ref g1))
    (G2 : FnOk P w K mg base CX0 2 g2 fd2 ["style"] (spStyle K)) (k2 : PySem.W.keepIn K (.ref g2) = true) (b2 : Binds K fd2 ["style"] []) (m2 : mg "check_style" = some (.ref g2)) : FnOk P w K mg base CX0 12 f fd ["self", "page", "style"] (spShInit K cs S) := by
  refine F.ok sc_shinit (fun vs H Q E h => ?_) (fun cdv A outer s H vs Q E hr h => ?_)
  · obtain ⟨sh, a, st, dx, as, rows, gap, least, rfl, _⟩ := h
    rfl
  · obtain ⟨sh, a, st, dx, as, rows, gap, least, rfl, hT, hsh, hP, hO, hS, k⟩ := h
    have r2 : Room 2 _ := hr.mono (by decide)
    refine ⟨_, pss_cons (ps_expr (pe_call G1 hr (by rfl) m1 k1 b1 .nil pass0 (pa_cons (pv 1) pa_nil)))
      (pss_cons (ps_expr (pe_call G2 r2 (by rfl) m2 k2 b2 .nil pass0 (pa_cons (pv 2) pa_nil)))
      (pss_cons (ps_fld (pv 0) (pe_callTy call_list_of (by rfl) T.list (by decide +kernel) (pa_cons (pv 1) pa_nil)) rfl)
      (pss_cons (ps_fld (pv 0) (pv 2) rfl) (pss_one (ps_fld (pv 0) (pe_lst pa_nil) rfl))))), ?_⟩
    refine ⟨_, rfl, a, as, rows, rfl, hT, hP, hO, fun H1 x1 => ⟨_, rfl, st, gap, least, rfl, hS.gwN x1.ext, ?_⟩⟩
    have hsh1 : H1 sh = some (.ins S dx []) := x1.ext _ _ hsh fun ps z => by cases z
    refine ⟨_, rfl, a, _, rfl, .inl (hP.ex x1).lst, fun rl nrl => ?_⟩
    have x2 := x1.trans (Ex.laid (o := .lst (as.map V.ref)) x1.tab nrl)
    have hsh2 : upd H1 rl (.lst (as.map V.ref)) sh = some (.ins S dx []) := by rw [upd_ne (ne_of_none hsh1 nrl)]; exact hsh1
    have hrl2 : upd H1 rl (.lst (as.map V.ref)) rl = some (.lst (as.map V.ref)) := upd_same
    generalize upd H1 rl (.lst (as.map V.ref)) = H2 at x2 hsh2 hrl2 ⊢
    refine ⟨_, rfl, sh, S, dx, _, rfl, hsh2, X.cS, X.nRows, by decide, ?_⟩
    refine ⟨_, rfl, _, rfl, sh, S, dx, _, rfl, upd_same, X.cS, X.nStyle, by show 1 < 1000; decide, ?_⟩
    rw [upd_upd]
    refine ⟨small0, fun dl ndl => ⟨_, rfl, sh, S, dx, _, rfl, by rw [upd_ne (ne_of_none upd_same ndl)]; exact upd_same, X.cS, X.nDeeds, by show 2 < 1000; decide, ?_⟩⟩
    have nshd : sh ≠ dl := ne_of_none upd_same ndl
    have nd2 : H2 dl = none := by rw [upd_ne nshd.symm] at ndl; exact ndl
    have keep : ∀ b o, H2 b = some o → b ≠ sh → upd (upd (upd H2 sh (.ins S dx (putF "style" (.ref st) (putF "rows" (.ref rl) [])))) dl (.lst [])) sh (.ins S dx (putF "deeds" (.ref dl) (putF "style" (.ref st) (putF "rows" (.ref rl) [])))) b = some o := fun b o h n => by
      rw [upd_ne n, upd_ne (ne_of_none h nd2), upd_ne n]
      exact h
    have nsr : rl ≠ sh := fun z => by rw [z, hsh2] at hrl2; cases hrl2
    have sqk : ∀ {t : Addr} {xs : List V}, SqT K H t xs → SqT K (upd (upd (upd H2 sh (.ins S dx (putF "style" (.ref st) (putF "rows" (.ref rl) [])))) dl (.lst [])) sh (.ins S dx (putF "deeds" (.ref dl) (putF "style" (.ref st) (putF "rows" (.ref rl) []))))) t xs := fun {t xs} h => by
      rcases x2.sqT h with (h3 | ⟨u, h3⟩) | h3
      · exact .inl (.inl (keep _ _ h3 fun z => by rw [z, hsh2] at h3; cases h3))
      · exact .inl (.inr ⟨u, keep _ _ h3 fun z => by rw [z, hsh2] at h3; cases h3⟩)
      · exact .inr h3
    refine k rl dl _ (fun b o h n m => keep b o (xn_ex x2 b o h n) m) ?_ (fun b hb => ?_) ⟨⟨dx, upd_same⟩, keep _ _ hrl2 nsr, by rw [upd_ne nshd.symm, upd_same]; rfl, ne_of_none hrl2 nd2, ⟨hP.len, fun i q r h1 h2 => sqk (hP.row i q r h1 h2)⟩, hO, ⟨sqk hS.tup, hS.g0, hS.g1, hS.l0, hS.l1⟩, by unfold PastAt; trivial, fun y hy => hy.elim⟩ (x1.old rl nrl) (x2.old dl nd2)
    · intro p hp
      obtain ⟨ps, h1, h2⟩ := x2.tab p hp
      exact ⟨ps, keep _ _ h1 (fun z => by rw [z, hsh2] at h1; cases h1), h2⟩
    · refine x2.old b ?_
      cases e : H2 b with
      | none => rfl
      | some u =>
        by_cases z : b = sh
        · rw [z, upd_same] at hb; cases hb
        · rw [keep b u e z] at hb; cases hb
end
end TGK

namespace TGK
open TG
open PySem PySem.Spec PyProof.Rows L2 Gx EnT
/-! ### Sheet.lay -/
abbrev rLenK (K : PySem.W.Frag) : List V → Hp → VK → Prop := fun xs H Q => ∃ (p : Addr) (ys : List V), xs = [V.ref p] ∧ (SqL K H p ys ∨ SqT K H p ys) ∧ Q (V.int (ys.length : Nat)) H
/-- rows that stay, by their numbers ahead and behind -/
def stayR (len n m q : Nat) : List (Nat × Nat) := (List.range n).map (fun i => (i, i)) ++ (List.range (len - (n + m))).map fun j => (n + m + j, n + q + j)
/-- what a deed tells -/
def laidR (rows new : List (List Str)) (gap least : Int) (n m : Nat) : List (List V) := movL (begsR rows gap least) (begsR (splice rows n m new) gap least) (stayR rows.length n m new.length)
theorem splice_ahead {α : Type} {xs new : List α} {n m i : Nat} (h : n + m ≤ xs.length) (hi : i < n) : (splice xs n m new)[i]? = xs[i]? := by
  unfold splice
  rw [List.append_assoc, List.getElem?_append_left (by rw [List.length_take]; omega), List.getElem?_take, if_pos hi]
theorem splice_behind {α : Type} {xs new : List α} {n m j : Nat} (h : n + m ≤ xs.length) : (splice xs n m new)[n + new.length + j]? = xs[n + m + j]? := by
  unfold splice
  rw [List.getElem?_append_right (by rw [List.length_append, List.length_take]; omega), List.length_append, List.length_take, List.getElem?_drop]
  congr 1
  omega
theorem begsR_ncl (rows : List (List Str)) (gap least : Int) (i : Nat) : (begsR rows gap least i).length = ncl rows i + 1 := begs_len ..
theorem ncl_eq {rows rows' : List (List Str)} {i i' : Nat} (h : rows[i]? = rows'[i']?) : ncl rows i = ncl rows' i' := by unfold ncl; rw [h]
theorem stay_ok {rows new : List (List Str)} {gap least : Int} {n m : Nat} (h : n + m ≤ rows.length) (hO : PgOk rows) : ∀ p ∈ stayR rows.length n m new.length, p.1 < rows.length ∧ p.2 < (splice rows n m new).length ∧ (begsR rows gap least p.1).length = (begsR (splice rows n m new) gap least p.2).length ∧ (begsR rows gap least p.1).length ≤ 6 := by
  intro p hp
  have sl := splice_len (new := new) h
  have key : ∀ i i', i < rows.length → rows[i]? = (splice rows n m new)[i']? → (begsR rows gap least i).length = (begsR (splice rows n m new) gap least i').length ∧ (begsR rows gap least i).length ≤ 6 := fun i i' hi e => by
    refine ⟨by rw [begsR_ncl, begsR_ncl, ncl_eq e], ?_⟩
    rw [begsR_ncl]
    unfold ncl
    rw [List.getElem?_eq_getElem hi]
    have := (hO.rows _ (List.getElem_mem hi)).len
    have := (hO.rows _ (List.getElem_mem hi)).pos
    show rows[i].length - 1 + 1 ≤ 6
    omega
  unfold stayR at hp
  rcases List.mem_append.mp hp with q | q
  · obtain ⟨i, hi, rfl⟩ := List.mem_map.mp q
    rw [List.mem_range] at hi
    exact ⟨by omega, by omega, key i i (by omega) (splice_ahead h hi).symm⟩
  · obtain ⟨j, hj, rfl⟩ := List.mem_map.mp q
    rw [List.mem_range] at hj
    exact ⟨by show n + m + j < _; omega, by show n + new.length + j < _; omega, key _ _ (by omega) (splice_behind h).symm⟩
theorem stay_len (len n m q : Nat) (h : n + m ≤ len) : (stayR len n m q).length ≤ len := by
  unfold stayR
  rw [List.length_append, List.length_map, List.length_map, List.length_range, List.length_range]
  omega
/-- a list of lists of values, told anew -/
structure NewL (H0 H : Hp) (D : Addr) (l : List (List V)) : Prop where
  nD : H0 D = none
  ts : ∃ ts : List Addr, H D = some (.lst (ts.map V.ref)) ∧ ts.length = l.length ∧ ∀ (j : Nat) (t : Addr) (v : List V), ts[j]? = some t → l[j]? = some v → H t = some (.tup v)
theorem TupL.pairs {H0 H : Hp} {D : Addr} {l : List (Nat × Nat)} (o : TupL H0 D (l.map v2) H) : PairL H D l := by
  obtain ⟨ts, h1, h2, h3⟩ := o.ts
  exact ⟨ts, h1, by rw [h2, List.length_map], fun j t p e1 e2 => h3 j t (v2 p) e1 (by rw [List.getElem?_map, e2]; rfl)⟩
theorem TupL.ext2 {H0 H1 H2 : Hp} {D D2 : Addr} {l l2 : List (List V)} (o : TupL H0 D l H1) (o2 : TupL H1 D2 l2 H2) : ∃ xs zs, H2 D = some (.lst xs) ∧ H2 D2 = some (.lst zs) ∧ xs.length = l.length ∧ zs.length = l2.length ∧ TupL H0 D (l ++ l2) (upd H2 D (.lst (xs ++ zs))) := by
  obtain ⟨ts, h1, h2, h3⟩ := (o.grow o2.sm).ts
  obtain ⟨us, g1, g2, g3⟩ := o2.ts
  have tD : ∀ {t : Addr} {v : List V}, H2 t = some (.tup v) → t ≠ D := fun {t v} h z => by rw [z, h1] at h; cases h
  refine ⟨_, _, h1, g1, by rw [List.length_map, h2], by rw [List.length_map, g2], fun b u e => ?_, o.nD, ts ++ us, by rw [upd_same]; simp, by rw [List.length_append, List.length_append, h2, g2], fun j t v e1 e2 => ?_⟩
  · rw [upd_ne (ne_of_none e o.nD)]
    exact o2.sm b u (o.sm b u e)
  · by_cases hj : j < ts.length
    · rw [List.getElem?_append_left hj] at e1
      rw [List.getElem?_append_left (by rw [← h2]; exact hj)] at e2
      have := h3 j t v e1 e2
      rw [upd_ne (tD this)]
      exact this
    · rw [List.getElem?_append_right (by omega)] at e1
      rw [List.getElem?_append_right (by rw [← h2]; omega), ← h2] at e2
      have := g3 _ t v e1 e2
      rw [upd_ne (tD this)]
      exact this
theorem tabs_lst {cs : List (Addr × Addr)} {H : Hp} {a : Addr} {us : List V} {o : HO} (t : Tabs cs H) (h : H a = some (.lst us)) : Tabs cs (upd H a o) := fun p hp => by
  obtain ⟨ps, h1, h2⟩ := t p hp
  exact ⟨ps, by rw [upd_ne fun z => by rw [z, h] at h1; cases h1]; exact h1, h2⟩
section
variable {P : Program} {w : World} {K : PySem.W.Frag} {mg : Str → Option Value} {base : Heap} {cs : List (Addr × Addr)} {S R C G : Addr}
/-- what comes of a deed that can be done: the sheet, and what it tells -/
structure Done (K : PySem.W.Frag) (cs : List (Addr × Addr)) (S : Addr) (H H' : Hp) (sh rl dl st : Addr) (rows : List (List Str)) (gap least : Int) (ps : List (List (List Str))) (av : Addr → Prop) (D : Addr) (l : List (List V)) : Prop where
  ext : ExtS cs rl dl H H'
  tab : Tabs cs H'
  old : ∀ b, H' b = none → H b = none
  sht : ∃ as ts, ShtD K S H' sh rl dl st as rows gap least ts ps (fun x => av x ∨ x = D)
  told : NewL H H' D l
def spLay (K : PySem.W.Frag) (cs : List (Addr × Addr)) (S R C : Addr) : Sp := fun vs H Q E => ∃ (sh rl dl st nl : Addr) (as nas : List Addr) (rows new : List (List Str)) (gap least : Int) (ts : List Addr) (ps : List (List (List Str))) (av : Addr → Prop) (n m : Nat), vs = [.ref sh, .int (n : Nat), .int (m : Nat), .ref nl] ∧ Tabs cs H ∧
  ShtD K S H sh rl dl st as rows gap least ts ps av ∧ ps.length ≤ 3000 ∧ H nl = some (.lst (nas.map V.ref)) ∧ nl ≠ rl ∧ nl ≠ dl ∧ RowsAt K H nas new ∧ new.length ≤ 2 ∧ (∀ r ∈ new, RowL r 100 100) ∧ n + m ≤ rows.length ∧
  (fitsR ((rows.length : Nat) - (m : Nat) + (new.length : Nat)) new = true → ∀ D H', Done K cs S H H' sh rl dl st (splice rows n m new) gap least (rows :: ps) av D (laidR rows new gap least n m) → Q (.ref D) H') ∧
  (fitsR ((rows.length : Nat) - (m : Nat) + (new.length : Nat)) new = false → ∀ c H', c = R ∨ c = C → Ex cs H H' → E (.ref c) none H')
abbrev nmLay : List Str := ["self", "number", "many", "rows", "before", "others", "row"]
theorem sc_lay : FnScope nmLay ["self", "number", "many", "rows"] (defScope (mth nSheet 11)) := ⟨rfl, rfl, rfl, by decide +kernel, rfl, by decide +kernel, by decide +kernel⟩
theorem fits_ok {rows new : List (List Str)} {n m : Nat} (hO : PgOk rows) (h : n + m ≤ rows.length) (hL : ∀ r ∈ new, RowL r 100 100) (f : fitsR ((rows.length : Nat) - (m : Nat) + (new.length : Nat)) new = true) : PgOk (splice rows n m new) := by
  unfold fitsR at f
  rw [Bool.and_eq_true, decide_eq_true_iff, List.all_eq_true] at f
  obtain ⟨⟨f1, f2⟩, f3⟩ := f
  have sl := splice_len (new := new) h
  refine ⟨by omega, by omega, fun r hr => ?_⟩
  unfold splice at hr
  rcases List.mem_append.mp hr with q | q
  · rcases List.mem_append.mp q with q | q
    · exact hO.rows r (List.mem_of_mem_take q)
    · exact (hL r q).fit.mp (f3 r q)
  · exact hO.rows r (List.mem_of_mem_drop q)
theorem ok_lay {f g1 g2 g3 : Addr} {fd fd1 fd2 fd3 : FuncData} (T : Txt mg) (X : ShC K S) (F : Fun K "lay" "Sheet.lay" (mth nSheet 11) f fd)
    (G1 : FnOk P w K mg base (L2.CX P w) 11 g1 fd1 ["many", "rows"] (spFits K cs R C)) (k1 : PySem.W.keepIn K (.ref g1) = true) (b1 : Binds K fd1 ["many", "rows"] []) (m1 : mg "check_fits" = some (.ref g1))
    (M2 : Meth K S "begins" g2) (G2 : FnOk P w K mg base CX0 15 g2 fd2 ["self"] (spShBegins K cs S)) (b2 : Binds K fd2 ["self"] [])
    (G3 : FnOk P w K mg base CX0 1 g3 fd3 ["before", "after", "others"] spMov) (k3 : PySem.W.keepIn K (.ref g3) = true) (b3 : Binds K fd3 ["before", "after", "others"] []) (m3 : mg "moved" = some (.ref g3)) :
    FnOk P w K mg base (L2.CX P w) 16 f fd ["self", "number", "many", "rows"] (spLay K cs S R C) := by
  refine F.okX sc_lay (fun vs H Q E h => ?_) (fun cdv A outer s H vs Q E hr h => ?_)
  · obtain ⟨sh, rl, dl, st, nl, as, nas, rows, new, gap, least, ts, ps, av, n, m, rfl, _⟩ := h
    rfl
  · obtain ⟨sh, rl, dl, st, nl, as, nas, rows, new, gap, least, ts, ps, av, n, m, rfl, hT, hS, hps, hN, nr, ndl, hA, h2, hL, hnm, kq, ke⟩ := h
    have nd := sc_lay.nd
    have r10 : Room 11 _ := hr.mono (by decide)
    have r14 : Room 15 _ := hr
    have r1 : Room 1 _ := hr.mono (by decide)
    refine ⟨_, pss_cons (ps_expr (pe_callS G1 r10 (by rfl) m1 k1 b1 (fun σ => passAt (takes_of rfl rfl rfl rfl) σ) (pa_cons (pe_op op_add (pe_op op_sub (pe_callB call_len_seq (by rfl) T.len PySem.boot_len (pa_cons (pe_fld (pv 0) rfl) pa_nil)) (pv 2)) (pe_callB call_len_seq (by rfl) T.len PySem.boot_len (pa_cons (pv 3) pa_nil))) (pa_cons (pv 3) pa_nil))))
      (pss_cons (ps_set (i := 4) nd rfl (.inl rfl) (pe_meth0 (pv 0) X.cS M2 G2 r14 b2 .nil pass0))
      (pss_cons (ps_expr (pe_bm PySem.F.plainAttrs_list PySem.F.slot_list_append PySem.F.type_list_append mt_append (pe_fld (pv 0) rfl) (pa_cons (pe_tup (pa_cons (pv 1) (pa_cons (pe_callB call_len_seq (by rfl) T.len PySem.boot_len (pa_cons (pv 3) pa_nil)) (pa_cons (pe_slice sl_list (pe_fld (pv 0) rfl) (po_some (pv 1)) (po_some (pe_op op_add (pv 1) (pv 2)))) pa_nil)))) pa_nil)))
      (pss_cons (ps_asg (pv 3) (pg_slice (pe_fld (pv 0) rfl) (pv 1) (pe_op op_add (pv 1) (pv 2))))
      (pss_cons (ps_setLc (i := 5) (own := [("row", 6)]) (g := gName 6) (tt := tYes) rfl nd rfl rfl (sw_true rfl rfl rfl (by decide +kernel)) (pi_range1 (by rfl) T.range (pa_cons (pv 1) pa_nil)) (blkOk_by (own := [("row", 6)]) (N := nmLay) (sc := defScope (mth nSheet 11)) (by decide +kernel)) (fun _ _ _ _ _ => pg_name (i := 6) nd rfl (Or.inl rfl)) (fun _ _ _ _ _ => pts_nil) (fun _ _ _ _ _ => pe_tup (pa_cons (pv 6) (pa_cons (pv 6) pa_nil))))
      (pss_cons (ps_aug (i := 5) nd rfl (.inl rfl) (pe_lc (own := [("row", 6)]) (g := gName 6) (tt := tYes) rfl nd (pi_range2 (by rfl) T.range (pa_cons (pe_op op_add (pv 1) (pv 2)) (pa_cons (pe_callB call_len_seq (by rfl) T.len PySem.boot_len (pa_cons (pv 4) pa_nil)) pa_nil))) (blkOk_by (own := [("row", 6)]) (N := nmLay) (sc := defScope (mth nSheet 11)) (by decide +kernel)) (fun _ _ _ _ _ => pg_name (i := 6) nd rfl (Or.inl rfl)) (fun _ _ _ _ _ => pts_nil) (fun _ _ _ _ _ => pe_tup (pa_cons (pv 6) (pa_cons (pe_op op_add (pe_op op_sub (pv 6) (pv 2)) (pe_callB (r := rLenK K) call_len_seq (by rfl) T.len PySem.boot_len (pa_cons (pv 3) pa_nil))) pa_nil)))) iop_ext)
      (pss_one (ps_ret (pe_call G3 r1 (by rfl) m3 k3 b3 .nil pass0 (pa_cons (pv 4) (pa_cons (pe_meth0 (pv 0) X.cS M2 G2 r14 b2 .nil pass0) (pa_cons (pv 5) pa_nil))))))))))), ?_⟩
    obtain ⟨dx, h1⟩ := hS.she
    have la : (as.map V.ref).length = rows.length := by rw [List.length_map, hS.at_.len]
    have ln : (nas.map V.ref).length = new.length := by rw [List.length_map, hA.len]
    have h30 := hS.ok.len
    have szl : (1000 : Nat) < sizeLine := by decide
    refine ⟨_, rfl, sh, S, dx, _, _, rfl, h1, X.cS, X.nRows, rfl, rl, _, rfl, .inl hS.page.lst, _, rfl, _, _, rfl, rfl, _, rfl, nl, _, rfl, .inl (SqL.of hN), _, _, rfl, rfl, _, rfl, ?_⟩
    rw [la, ln]
    refine ⟨_, nl, nas, new, rfl, hT, hN, hA, hL, fun ff H1 x1 => ?_, fun ff c H1 hc x1 => ke ff c H1 hc x1⟩
    have hS1 := hS.gw x1.ext
    have hN1 := x1.lst hN
    obtain ⟨dx1, h11⟩ := hS1.she
    refine ⟨_, rfl, sh, dx1, _, rfl, h11, rfl, sh, rl, dl, st, as, rows, gap, least, ts, ps, av, rfl, x1.tab, hS1, fun r0 es0 H2 x2 nr0 ne0 tA0 => ?_⟩
    have hS2 := hS1.gw x2.ext
    have hN2 := x2.lst hN1
    have x12 := x1.trans x2
    obtain ⟨dx2, h21⟩ := hS2.she
    refine ⟨_, rfl, sh, S, dx2, _, _, rfl, h21, X.cS, X.nDeeds, rfl, .inl ⟨rfl, _, SqL.of hS2.dl_⟩, _, rfl, _, rfl, nl, _, rfl, .inl (SqL.of hN2), _, rfl, sh, S, dx2, _, _, rfl, h21, X.cS, X.nRows, rfl, _, rfl, _, rfl, _, rfl, _, rfl, _, _, rfl, rfl, _, rfl, rl, _, rfl, SqL.of hS2.rl_, fun l nl0 => ⟨by show 3 ≤ sizeLine; decide, fun t nt => ?_⟩⟩
    have las : as.length = rows.length := hS.at_.len
    have lns : nas.length = new.length := hA.len
    have eL : cutV (as.map V.ref) (some ((n : Nat) : Int)) (some (((n : Nat) : Int) + ((m : Nat) : Int))) = ((as.drop n).take m).map V.ref := by
      rw [cutV_map, show ((n : Nat) : Int) + ((m : Nat) : Int) = ((n + m : Nat) : Int) by omega, cutL_mid (by omega) (by omega), show n + m - n = m by omega]
    rw [eL] at nt ⊢
    have y4 : Same H2 (upd (upd H2 l (.lst (((as.drop n).take m).map V.ref))) t (.tup [.int (n : Nat), .int ((nas.map V.ref).length : Nat), .ref l])) := same_tr (same_new nl0) (same_new nt)
    have hl4 : upd (upd H2 l (.lst (((as.drop n).take m).map V.ref))) t (.tup [.int (n : Nat), .int ((nas.map V.ref).length : Nat), .ref l]) l = some (.lst (((as.drop n).take m).map V.ref)) := by rw [upd_ne (ne_of_none upd_same nt), upd_same]
    have ht4 : upd (upd H2 l (.lst (((as.drop n).take m).map V.ref))) t (.tup [.int (n : Nat), .int ((nas.map V.ref).length : Nat), .ref l]) t = some (.tup [.int (n : Nat), .int ((nas.map V.ref).length : Nat), .ref l]) := upd_same
    generalize upd (upd H2 l (.lst (((as.drop n).take m).map V.ref))) t (.tup [.int (n : Nat), .int ((nas.map V.ref).length : Nat), .ref l]) = H4 at y4 hl4 ht4 ⊢
    rw [List.length_map] at ht4
    have hS4 := hS2.gw (same_ext y4)
    have lts : ts.length ≤ 3000 := by rw [hS.past.len]; exact hps
    have nlr : l ≠ rl := fun z => by rw [z, hS2.rl_] at nl0; cases nl0
    have nld : l ≠ dl := fun z => by rw [z, hS2.dl_] at nl0; cases nl0
    refine ⟨dl, _, _, rfl, rfl, hS4.dl_, by rw [List.length_map, List.length_reverse]; exact Nat.lt_of_le_of_lt lts (by decide : (3000 : Nat) < sizeLine), ?_⟩
    obtain ⟨nsr, nsd⟩ := hS4.ns
    have hN4 := y4 _ _ hN2
    obtain ⟨dx4, h41⟩ := hS4.she
    refine ⟨_, rfl, _, rfl, sh, S, dx4, _, _, rfl, by rw [upd_ne nsd]; exact h41, X.cS, X.nRows, rfl, _, rfl, _, rfl, _, rfl, _, rfl, _, rfl, _, _, rfl, rfl, _, rfl, _, rfl, rl, nl, _, _, rfl, rfl, by rw [upd_ne hS4.ne]; exact hS4.rl_, by rw [upd_ne ndl]; exact hN4, nr.symm, by omega, by omega, by rw [la]; omega, by rw [la, ln]; omega, ?_⟩
    have eM : (as.map V.ref).take (((n : Nat) : Int)).toNat ++ nas.map V.ref ++ (as.map V.ref).drop ((((n : Nat) : Int) + ((m : Nat) : Int))).toNat = (splice as n m nas).map V.ref := by
      rw [show ((((n : Nat) : Int) + ((m : Nat) : Int))).toNat = n + m by omega, show (((n : Nat) : Int)).toNat = n by omega]
      unfold splice
      rw [List.map_append, List.map_append, List.map_take, List.map_drop]
    rw [eM]
    have x46 : ExtS cs rl dl H4 (upd (upd H4 dl (.lst (ts.reverse.map V.ref ++ [.ref t]))) rl (.lst ((splice as n m nas).map V.ref))) := fun b o h _ q1 q2 => by rw [upd_ne q1, upd_ne q2]; exact h
    have t4 : Tabs cs H4 := tabs_ext x12.tab y4
    have t6 : Tabs cs (upd (upd H4 dl (.lst (ts.reverse.map V.ref ++ [.ref t]))) rl (.lst ((splice as n m nas).map V.ref))) := tabs_lst (tabs_lst t4 hS4.dl_) (by rw [upd_ne hS4.ne]; exact hS4.rl_)
    have hpos := fits_ok hS.ok hnm hL ff
    have lsp : (splice as n m nas).length = as.length - m + nas.length := splice_len (by omega)
    have bk : splice (splice as n m nas) n nas.length ((as.drop n).take m) = as := splice_back (by omega)
    have hS6 : ShtD K S (upd (upd H4 dl (.lst (ts.reverse.map V.ref ++ [.ref t]))) rl (.lst ((splice as n m nas).map V.ref))) sh rl dl st (splice as n m nas) (splice rows n m new) gap least (t :: ts) (rows :: ps) av := by
      refine ⟨⟨dx4, by rw [upd_ne nsr, upd_ne nsd]; exact h41⟩, upd_same, by rw [upd_ne hS4.ne.symm, upd_same, List.reverse_cons, List.map_append]; rfl, hS4.ne, ?_, hpos, hS4.style.exs x46 hS4.rl_ hS4.dl_, ?_, hS4.live2 x46 upd_same (by rw [upd_ne hS4.ne.symm]; exact upd_same)⟩
      · exact (hS4.at_.exs x46 hS4.rl_ hS4.dl_).splice (((hA.gw x12.ext).gw (same_ext y4)).exs x46 hS4.rl_ hS4.dl_)
      · unfold PastAt
        refine ⟨n, nas.length, (as.drop n).take m, l, tup_exs x46 hS4.rl_ hS4.dl_ ht4, x46 _ _ hl4 (.inl fun ps z => by cases z) nlr nld, nlr, nld, (fun q => by obtain ⟨u, e, _⟩ := hS2.live l q; rw [nl0] at e; cases e), by omega, by rw [List.length_take, List.length_drop]; omega, ?_, hS.ok, ?_⟩
        · rw [bk]
          exact hS4.at_.exs x46 hS4.rl_ hS4.dl_
        · rw [bk]
          exact hS4.past.exs x46 hS4.rl_ hS4.dl_
    have old6 : ∀ b, upd (upd H4 dl (.lst (ts.reverse.map V.ref ++ [.ref t]))) rl (.lst ((splice as n m nas).map V.ref)) b = none → H b = none := fun b hb => by
      refine x12.old b (same_old y4 ?_)
      by_cases q1 : b = rl
      · rw [q1, upd_same] at hb; cases hb
      · rw [upd_ne q1] at hb
        by_cases q2 : b = dl
        · rw [q2, upd_same] at hb; cases hb
        · rw [upd_ne q2] at hb; exact hb
    have x06 : ExtS cs rl dl H (upd (upd H4 dl (.lst (ts.reverse.map V.ref ++ [.ref t]))) rl (.lst ((splice as n m nas).map V.ref))) := ExtS.after (xn_tr (xn_ex x12) (same_xn y4)) x46
    have nr0' : H r0 = none := x1.old _ nr0
    have tA6 : ToldAt (upd (upd H4 dl (.lst (ts.reverse.map V.ref ++ [.ref t]))) rl (.lst ((splice as n m nas).map V.ref))) r0 es0 (begsR rows gap least) rows.length := by
      have tA4 := tA0.ext (same_ext y4)
      have q1 : r0 ≠ rl := fun z => by rw [z, hS1.rl_] at nr0; cases nr0
      have q2 : r0 ≠ dl := fun z => by rw [z, hS1.dl_] at nr0; cases nr0
      refine ⟨by rw [upd_ne q1, upd_ne q2]; exact tA4.lst, tA4.len, tA4.nd, fun i e he => ?_⟩
      have ne1 := (ne0 e (List.mem_of_getElem? he)).1
      have q3 : e ≠ rl := fun z => by rw [z, hS1.rl_] at ne1; cases ne1
      have q4 : e ≠ dl := fun z => by rw [z, hS1.dl_] at ne1; cases ne1
      rw [upd_ne q3, upd_ne q4]
      exact tA4.at_ i e he
    have hN6 : upd (upd H4 dl (.lst (ts.reverse.map V.ref ++ [.ref t]))) rl (.lst ((splice as n m nas).map V.ref)) nl = some (.lst (nas.map V.ref)) := by rw [upd_ne nr, upd_ne ndl]; exact hN4
    generalize upd (upd H4 dl (.lst (ts.reverse.map V.ref ++ [.ref t]))) rl (.lst ((splice as n m nas).map V.ref)) = H6 at t6 hS6 old6 x06 tA6 hN6 ⊢
    clear x46
    refine ⟨_, rfl, _, rfl, by omega, by omega, fun D1 nD1 => ?_⟩
    refine lc_range (n := (((n : Nat) : Int)).toNat) (fun j H' => TupL H6 D1 (((List.range j).map fun i => (i, i)).map v2) H') (TupL.start nD1) ?_ ?_
    · rintro j H7 hj o3
      refine ⟨rfl, _, rfl, _, rfl, by show 2 ≤ sizeLine; decide, fun t7 nt7 => ?_⟩
      have o4 := o3.grow (same_new (o := .tup [.int (0 + (j : Nat)), .int (0 + (j : Nat))]) nt7)
      obtain ⟨acc, w1, w2, w3⟩ := o4.more (t := t7) (v := [.int (0 + (j : Nat)), .int (0 + (j : Nat))]) upd_same
      refine ⟨acc, w1, by rw [w2, List.length_map, List.length_map, List.length_range]; omega, ?_⟩
      rw [List.range_succ, List.map_append, List.map_append]
      have e0 : ∀ n : Nat, (0 + ((n : Nat) : Int)) = ((n : Nat) : Int) := fun n => Int.zero_add _
      simp only [e0] at w3 ⊢
      exact w3
    intro H7 o7
    rw [show (((n : Nat) : Int)).toNat = n by omega] at o7
    have tA7 := tA6.ext (same_ext o7.sm)
    have le0 : (es0.map V.ref).length = rows.length := by rw [List.length_map, tA7.len]
    refine ⟨_, rfl, _, rfl, _, rfl, _, _, rfl, rfl, _, rfl, r0, _, rfl, .inl (SqL.of tA7.lst), _, _, rfl, ⟨by omega, by omega, by omega, by omega⟩, fun D2 nD2 => ?_⟩
    rw [le0, show (((rows.length : Nat) : Int) - (((n : Nat) : Int) + ((m : Nat) : Int))).toNat = rows.length - (n + m) by omega]
    have hN7 := o7.sm _ _ hN6
    refine lc_range (n := rows.length - (n + m)) (fun j H' => TupL H7 D2 (((List.range j).map fun j => (n + m + j, n + new.length + j)).map v2) H') (TupL.start nD2) ?_ ?_
    · rintro j H8 hj o3
      refine ⟨rfl, _, rfl, _, rfl, _, rfl, _, _, rfl, rfl, _, rfl, nl, _, rfl, .inl (SqL.of (o3.sm _ _ hN7)), _, _, rfl, rfl, by show 2 ≤ sizeLine; decide, fun t8 nt8 => ?_⟩
      have e1 : ((n : Nat) : Int) + ((m : Nat) : Int) + ((j : Nat) : Int) = ((n + m + j : Nat) : Int) := by omega
      have e2 : ((n : Nat) : Int) + ((m : Nat) : Int) + ((j : Nat) : Int) - ((m : Nat) : Int) + (((nas.map V.ref).length : Nat) : Int) = ((n + new.length + j : Nat) : Int) := by rw [ln]; omega
      rw [e1] at e2
      dsimp only
      rw [e1, e2]
      have o4 := o3.grow (same_new (o := .tup [.int ((n + m + j : Nat) : Int), .int ((n + new.length + j : Nat) : Int)]) nt8)
      obtain ⟨acc, w1, w2, w3⟩ := o4.more (t := t8) (v := [.int ((n + m + j : Nat) : Int), .int ((n + new.length + j : Nat) : Int)]) upd_same
      refine ⟨acc, w1, by rw [w2, List.length_map, List.length_map, List.length_range]; omega, ?_⟩
      rw [List.range_succ, List.map_append, List.map_append]
      exact w3
    intro H8 o8
    obtain ⟨xs, zs, w1, w2, w3, w4, w5⟩ := o7.ext2 o8
    refine ⟨D1, D2, xs, zs, rfl, rfl, w1, w2, by rw [w3, w4, List.length_map, List.length_map, List.length_range, List.length_map, List.length_map, List.length_range]; omega, ?_⟩
    rw [← List.map_append] at w5
    generalize upd H8 D1 (.lst (xs ++ zs)) = H9 at w5 ⊢
    have hS9 := hS6.gw (same_ext w5.sm)
    have t9 : Tabs cs H9 := tabs_ext t6 w5.sm
    obtain ⟨dx9, h91⟩ := hS9.she
    refine ⟨_, rfl, _, rfl, sh, dx9, _, rfl, h91, rfl, sh, rl, dl, st, splice as n m nas, splice rows n m new, gap, least, t :: ts, rows :: ps, av, rfl, t9, hS9, fun r1' es1 H10 x10 nr1 ne1 tA1 => ⟨_, rfl, ?_⟩⟩
    have pl : PairL H10 D1 (stayR rows.length n m new.length) := by
      obtain ⟨us, p1, p2, p3⟩ := w5.pairs.ts
      exact ⟨us, x10.lst p1, p2, fun j t p e1 e2 => x10.tup (p3 j t p e1 e2)⟩
    refine ⟨r0, r1', D1, es0, es1, _, _, _, _, _, rfl, (tA6.ext (same_ext w5.sm)).ext x10.ext, tA1, pl, stay_ok hnm hS.ok, by have := stay_len rows.length n m new.length hnm; omega, fun D H11 o11 => ?_⟩
    refine kq ff D H11 ⟨?_, ?_, ?_, ?_, ?_⟩
    · exact ((x06.gw (same_xn w5.sm)).gw (xn_ex x10)).gw (same_xn o11.sm)
    · exact tabs_ext x10.tab o11.sm
    · exact fun b hb => old6 b (same_old w5.sm (x10.old b (same_old o11.sm hb)))
    · obtain ⟨us, hus, _⟩ := o11.ts
      exact ⟨_, _, (hS9.gw x10.ext).new o11.nD (same_ext o11.sm) hus⟩
    · exact ⟨old6 _ (same_old w5.sm (x10.old _ o11.nD)), o11.ts⟩
end
end TGK

namespace TGK
open TG
open PySem PySem.Spec PyProof.Rows L2 Gx EnT
/-! ### methods that may raise -/
def tMethS (C : Addr) (m : Str) (sp : Sp) (E : L2.St → XK) (ta : TE) (t : L2.TA) : TE := fun σ H Q => ta σ H fun x H1 => ∃ a dx fs, x = .ref a ∧ H1 a = some (.ins C dx fs) ∧ fs.lookup m = none ∧ t σ H1 fun vs H2 => sp (.ref a :: vs) H2 Q (E σ)
section
variable {X : Cx} {CX : CXT} {k : Nat} {f C : Addr} {fd : FuncData} {ps : List Str} {sp : Sp} {E : L2.St → XK} {x m : Str} {p pos apos : Pos} {e o : Expr} {es : List Expr} {ta : TE} {t : L2.TA}
theorem pe_methS {pl : Sem Bool} (he : PE X o ta) (c : Cls X.K C) (hm : Meth X.K C m f) (F : FnOk X.prog X.w X.K X.mg X.base CX k f fd ps sp) (hr : Room k X.A) (hb : Binds X.K fd ps []) (hx : ∀ σ, PassesAt CX X σ (E σ)) (ha : PA X (e :: es) t)
    (hst : starEach (e :: es) X.env = (false, eval e X.env) :: starEach es X.env := by rfl) (hpl : (backTo pos (starEach es X.env)).any (·.1) = false := by rfl)
    (ht : eval (.Call (.Attribute o m apos) (e :: es) [] pos) X.env = (do
      let ov ← eval o X.env
      standAt apos.atName
      let (f, first) ← holding [ov] (getMethod ov m pl)
      callWith pos f first (backTo pos (starEach (e :: es) X.env)) (backToKw pos (keywordEach [] X.env))) := by rfl) :
    PE X (.Call (.Attribute o m apos) (e :: es) [] pos) (tMethS C m sp E ta t) := by
  refine ⟨fun pins s σ H Q I h => ?_⟩
  refine PySem.W.methodCall_KW (pl := pl) (thn (he.run pins s σ H _ I h) fun u s1 ⟨x, H1, I1, rx, a, dx, fs, ex, ea, l, q⟩ => ?_) ht
  subst ex
  obtain rfl : u = Value.ref a := rx
  refine getmeth_ok I1 ea c hm l ?_
  refine PySem.W.callWith_K (first := [.ref a]) (h₀ := X.base) I.ok.mod.kin hm.kp (thn (ha.run pos pins s1 σ H1 _ I1 q) fun us s2 ⟨vs, H2, I2, r, q2⟩ => ⟨I2.kIn, ?_⟩) hst hpl
  exact run_fnS (us := .ref a :: us) (vs := .ref a :: vs) F hr hb (hx σ) I2 (.cons rfl r) q2
end
/-! ### deeds -/
inductive Deed where
  | put (n : Nat) (r : List Str)
  | take (n : Nat)
  | change (n : Nat) (r : List Str)
  | strike (n c k : Nat) (z : Str)
  | erase (n c k : Nat)
  | part (n c k : Nat)
  | unite (n : Nat)
  | back
abbrev rowN (rows : List (List Str)) (n : Nat) : List Str := rows.getD n []
/-- where a deed lays how many rows anew, and which; none, where it is refused ahead -/
def cutD (rows : List (List Str)) : Deed → Option (Nat × Nat × List (List Str))
  | .put n r => some (n, 0, [r])
  | .take n => some (n, 1, [])
  | .change n r => some (n, 1, [r])
  | .strike n c k z => some (n, 1, [if z = tabS then halvA (rowN rows n) c k ++ halvB (rowN rows n) c k else joinR (joinR (halvA (rowN rows n) c k) [z]) (halvB (rowN rows n) c k)])
  | .erase n c k => (lessR (halvB (rowN rows n) c k)).map fun b => (n, 1, [joinR (halvA (rowN rows n) c k) b])
  | .part n c k => some (n, 1, [halvA (rowN rows n) c k, halvB (rowN rows n) c k])
  | .unite n => if n + 1 < rows.length then some (n, 2, [joinR (rowN rows n) (rowN rows (n + 1))]) else none
  | .back => none
/-- a place of a cell -/
structure PlOk (rows : List (List Str)) (n c k : Nat) : Prop where
  n_ : n < rows.length
  c_ : c < (rowN rows n).length
  k_ : k ≤ ((rowN rows n).getD c nilS).length
def DOk (rows : List (List Str)) : Deed → Prop
  | .put n r => n ≤ rows.length ∧ RowOk r
  | .take n => n < rows.length
  | .change n r => n < rows.length ∧ RowOk r
  | .strike n c k z => PlOk rows n c k ∧ (z = tabS ∨ (Sgs z 1 ∧ z ≠ nilS))
  | .erase n c k => PlOk rows n c k
  | .part n c k => PlOk rows n c k
  | .unite n => n < rows.length
  | .back => True
/-- the page behind a deed, and what it tells; none, where it is refused -/
def goneD (rows : List (List Str)) (gap least : Int) (d : Deed) : Option (List (List Str) × List (List V)) := (cutD rows d).bind fun p =>
  if fitsR ((rows.length : Nat) - (p.2.1 : Nat) + (p.2.2.length : Nat)) p.2.2 = true then some (splice rows p.1 p.2.1 p.2.2, laidR rows p.2.2 gap least p.1 p.2.1) else none
theorem rowN_ok {rows : List (List Str)} {n : Nat} (hO : PgOk rows) (h : n < rows.length) : RowOk (rowN rows n) := by
  unfold rowN
  rw [List.getD_eq_getElem?_getD, List.getElem?_eq_getElem h]
  exact hO.rows _ (List.getElem_mem h)
theorem rowN_get {rows : List (List Str)} {n : Nat} (h : n < rows.length) : rows[n]? = some (rowN rows n) := by
  unfold rowN
  rw [List.getD_eq_getElem?_getD, List.getElem?_eq_getElem h]
  rfl
section
variable {P : Program} {w : World} {K : PySem.W.Frag} {mg : Str → Option Value} {base : Heap} {cs : List (Addr × Addr)} {S R C G : Addr}
/-- what a caller wants of a deed -/
structure After (K : PySem.W.Frag) (cs : List (Addr × Addr)) (S R C : Addr) (H : Hp) (Q : VK) (E : XK) (sh rl dl st : Addr) (rows : List (List Str)) (gap least : Int) (ps : List (List (List Str))) (av : Addr → Prop) (d : Deed) : Prop where
  yes : ∀ rows' l, goneD rows gap least d = some (rows', l) → ∀ D H', Done K cs S H H' sh rl dl st rows' gap least (rows :: ps) av D l → Q (.ref D) H'
  no : goneD rows gap least d = none → ∀ c H', c = R ∨ c = C → Ex cs H H' → E (.ref c) none H'
theorem Done.after {H H1 H' : Hp} {sh rl dl st D : Addr} {rows : List (List Str)} {gap least : Int} {ps : List (List (List Str))} {av : Addr → Prop} {l : List (List V)} (x : Ex cs H H1) (d : Done K cs S H1 H' sh rl dl st rows gap least ps av D l) : Done K cs S H H' sh rl dl st rows gap least ps av D l :=
  ⟨ExtS.after (xn_ex x) d.ext, d.tab, fun b hb => x.old b (d.old b hb), d.sht, ⟨x.old _ d.told.nD, d.told.ts⟩⟩
theorem lay_go {H H1 : Hp} {Q : VK} {E : XK} {sh rl dl st nl : Addr} {as nas : List Addr} {rows new : List (List Str)} {gap least : Int} {ts : List Addr} {ps : List (List (List Str))} {av : Addr → Prop} {d : Deed} {n m : Nat} (a : After K cs S R C H Q E sh rl dl st rows gap least ps av d) (x : Ex cs H H1) (hc : cutD rows d = some (n, m, new))
    (hS : ShtD K S H1 sh rl dl st as rows gap least ts ps av) (hps : ps.length ≤ 3000) (hN : H1 nl = some (.lst (nas.map V.ref))) (nr : nl ≠ rl) (nd : nl ≠ dl) (hA : RowsAt K H1 nas new) (h2 : new.length ≤ 2) (hL : ∀ r ∈ new, RowL r 100 100) (hnm : n + m ≤ rows.length) :
    spLay K cs S R C [.ref sh, .int (n : Nat), .int (m : Nat), .ref nl] H1 Q E := by
  refine ⟨sh, rl, dl, st, nl, as, nas, rows, new, gap, least, ts, ps, av, n, m, rfl, x.tab, hS, hps, hN, nr, nd, hA, h2, hL, hnm, fun f D H' dn => ?_, fun f c H' hc2 x2 => ?_⟩
  · refine a.yes _ _ ?_ D H' (dn.after x)
    unfold goneD
    rw [hc, Option.bind_some, if_pos f]
  · refine a.no ?_ c H' hc2 (x.trans x2)
    unfold goneD
    rw [hc, Option.bind_some, if_neg (by rw [f]; exact Bool.false_ne_true)]
theorem no_go {H H1 : Hp} {Q : VK} {E : XK} {sh rl dl st : Addr} {rows : List (List Str)} {gap least : Int} {ps : List (List (List Str))} {av : Addr → Prop} {d : Deed} {c : Addr} (a : After K cs S R C H Q E sh rl dl st rows gap least ps av d) (x : Ex cs H H1) (hc : cutD rows d = none) (h : c = R ∨ c = C) : E (.ref c) none H1 := by
  refine a.no ?_ c H1 h x
  unfold goneD
  rw [hc]
  rfl
/-- a sheet as it stands, and what is wanted of a deed of it -/
def DeedAt (K : PySem.W.Frag) (cs : List (Addr × Addr)) (S R C : Addr) (H : Hp) (Q : VK) (E : XK) (sh : Addr) (d : Deed) : Prop := ∃ (rl dl st : Addr) (as : List Addr) (rows : List (List Str)) (gap least : Int) (ts : List Addr) (ps : List (List (List Str))) (av : Addr → Prop),
  Tabs cs H ∧ ShtD K S H sh rl dl st as rows gap least ts ps av ∧ ps.length ≤ 3000 ∧ DOk rows d ∧ After K cs S R C H Q E sh rl dl st rows gap least ps av d
def spPut (K : PySem.W.Frag) (cs : List (Addr × Addr)) (S R C : Addr) : Sp := fun vs H Q E => ∃ (sh q : Addr) (n : Nat) (r : List Str), vs = [.ref sh, .int (n : Nat), .ref q] ∧ SqT K H q (sV r) ∧ DeedAt K cs S R C H Q E sh (.put n r)
def spTakeD (K : PySem.W.Frag) (cs : List (Addr × Addr)) (S R C : Addr) : Sp := fun vs H Q E => ∃ (sh : Addr) (n : Nat), vs = [.ref sh, .int (n : Nat)] ∧ DeedAt K cs S R C H Q E sh (.take n)
def spChange (K : PySem.W.Frag) (cs : List (Addr × Addr)) (S R C : Addr) : Sp := fun vs H Q E => ∃ (sh q : Addr) (n : Nat) (r : List Str), vs = [.ref sh, .int (n : Nat), .ref q] ∧ SqT K H q (sV r) ∧ DeedAt K cs S R C H Q E sh (.change n r)
def spStrike (K : PySem.W.Frag) (cs : List (Addr × Addr)) (S R C : Addr) : Sp := fun vs H Q E => ∃ (sh : Addr) (n c k : Nat) (z : Str), vs = [.ref sh, .int (n : Nat), .int (c : Nat), .int (k : Nat), .str z] ∧ DeedAt K cs S R C H Q E sh (.strike n c k z)
def spErase (K : PySem.W.Frag) (cs : List (Addr × Addr)) (S R C : Addr) : Sp := fun vs H Q E => ∃ (sh : Addr) (n c k : Nat), vs = [.ref sh, .int (n : Nat), .int (c : Nat), .int (k : Nat)] ∧ DeedAt K cs S R C H Q E sh (.erase n c k)
def spPart (K : PySem.W.Frag) (cs : List (Addr × Addr)) (S R C : Addr) : Sp := fun vs H Q E => ∃ (sh : Addr) (n c k : Nat), vs = [.ref sh, .int (n : Nat), .int (c : Nat), .int (k : Nat)] ∧ DeedAt K cs S R C H Q E sh (.part n c k)
def spUnite (K : PySem.W.Frag) (cs : List (Addr × Addr)) (S R C : Addr) : Sp := fun vs H Q E => ∃ (sh : Addr) (n : Nat), vs = [.ref sh, .int (n : Nat)] ∧ DeedAt K cs S R C H Q E sh (.unite n)
theorem ShtD.nnew {H : Hp} {sh rl dl st nl : Addr} {as : List Addr} {rows : List (List Str)} {gap least : Int} {ts : List Addr} {ps : List (List (List Str))} {av : Addr → Prop} (h : ShtD K S H sh rl dl st as rows gap least ts ps av) (n : H nl = none) : nl ≠ rl ∧ nl ≠ dl :=
  ⟨(fun z => by rw [z, h.rl_] at n; cases n), (fun z => by rw [z, h.dl_] at n; cases n)⟩
theorem rows1 {H : Hp} {q : Addr} {r : List Str} (h : SqT K H q (sV r)) : RowsAt K H [q] [r] := ⟨rfl, fun i p s e1 e2 => by
  cases i with
  | zero => cases e1; cases e2; exact h
  | succ i => cases e1⟩
theorem rows2 {H : Hp} {q q2 : Addr} {r r2 : List Str} (h : SqT K H q (sV r)) (h2 : SqT K H q2 (sV r2)) : RowsAt K H [q, q2] [r, r2] := ⟨rfl, fun i p s e1 e2 => by
  cases i with
  | zero => cases e1; cases e2; exact h
  | succ i =>
    cases i with
    | zero => cases e1; cases e2; exact h2
    | succ i => cases e1⟩
end
end TGK

namespace TGK
open TG
open PySem PySem.Spec PyProof.Rows L2 Gx EnT
section
variable {P : Program} {w : World} {K : PySem.W.Frag} {mg : Str → Option Value} {base : Heap} {cs : List (Addr × Addr)} {S R C G : Addr}
theorem sc_strike : FnScope ["self", "number", "cell", "place", "sign", "ahead", "behind"] ["self", "number", "cell", "place", "sign"] (defScope (mth nSheet 4)) := ⟨rfl, rfl, rfl, by decide +kernel, rfl, by decide +kernel, by decide +kernel⟩
theorem sc_erase : FnScope ["self", "number", "cell", "place", "ahead", "behind"] ["self", "number", "cell", "place"] (defScope (mth nSheet 5)) := ⟨rfl, rfl, rfl, by decide +kernel, rfl, by decide +kernel, by decide +kernel⟩
theorem sc_part : FnScope ["self", "number", "cell", "place", "ahead", "behind"] ["self", "number", "cell", "place"] (defScope (mth nSheet 6)) := ⟨rfl, rfl, rfl, by decide +kernel, rfl, by decide +kernel, by decide +kernel⟩
theorem sc_unite : FnScope ["self", "number"] ["self", "number"] (defScope (mth nSheet 7)) := ⟨rfl, rfl, rfl, by decide +kernel, rfl, by decide +kernel, by decide +kernel⟩
theorem sc_back : FnScope ["self", "number", "many", "rows"] ["self"] (defScope (mth nSheet 8)) := ⟨rfl, rfl, rfl, by decide +kernel, rfl, by decide +kernel, by decide +kernel⟩
theorem str_decD (a b : Str) : decide (V.str a = V.str b) = decide (a = b) := by
  by_cases h : a = b
  · rw [decide_eq_true h, decide_eq_true (by rw [h])]
  · rw [decide_eq_false h, decide_eq_false fun z => h (by injection z)]
theorem sign1 {z : Str} (h : Sgs z 1) : RowL [z] 100 100 := ⟨by simp, by simp, fun y hy => by rw [List.mem_singleton.mp hy]; exact h.mono (by decide)⟩
theorem ok_strike {f g1 g2 g3 g4 : Addr} {fd fd1 fd2 fd3 fd4 : FuncData} (eT : ∃ t, mg "TAB" = some (.str tabS t)) (X : ShC K S) (F : Fun K "strike" "Sheet.strike" (mth nSheet 4) f fd)
    (G1 : FnOk P w K mg base CX0 3 g1 fd1 ["rows", "number", "cell", "place"] (spHalf K)) (k1 : PySem.W.keepIn K (.ref g1) = true) (b1 : Binds K fd1 ["rows", "number", "cell", "place"] []) (m1 : mg "halves" = some (.ref g1))
    (G2 : FnOk P w K mg base CX0 7 g2 fd2 ["sign"] (spCSign cs)) (k2 : PySem.W.keepIn K (.ref g2) = true) (b2 : Binds K fd2 ["sign"] []) (m2 : mg "check_sign" = some (.ref g2))
    (G4 : FnOk P w K mg base CX0 1 g4 fd4 ["ahead", "behind"] (spJoin K)) (k4 : PySem.W.keepIn K (.ref g4) = true) (b4 : Binds K fd4 ["ahead", "behind"] []) (m4 : mg "joined" = some (.ref g4))
    (M3 : Meth K S "lay" g3) (G3 : FnOk P w K mg base (L2.CX P w) 16 g3 fd3 ["self", "number", "many", "rows"] (spLay K cs S R C)) (b3 : Binds K fd3 ["self", "number", "many", "rows"] []) :
    FnOk P w K mg base (L2.CX P w) 17 f fd ["self", "number", "cell", "place", "sign"] (spStrike K cs S R C) := by
  refine F.okX sc_strike (fun vs H Q E h => ?_) (fun cdv A outer s H vs Q E hr h => ?_)
  · obtain ⟨sh, n, c, k, z, rfl, _⟩ := h
    rfl
  · obtain ⟨sh, n, c, k, z, rfl, rl, dl, st, as, rows, gap, least, ts, ps, av, hT, hS, hps, ⟨pl, hz⟩, ha⟩ := h
    obtain ⟨tt, eT⟩ := eT
    have nd := sc_strike.nd
    have r1 : Room 1 _ := hr.mono (by decide)
    have r3 : Room 3 _ := hr.mono (by decide)
    have r6 : Room 6 _ := hr.mono (by decide)
    refine ⟨_, pss_cons (ps_asg (pe_call G1 r3 (by rfl) m1 k1 b1 .nil pass0 (pa_cons (pe_fld (pv 0) rfl) (pa_cons (pv 1) (pa_cons (pv 2) (pa_cons (pv 3) pa_nil))))) (pg_tup rfl (pgs_cons (pg_name (i := 5) nd rfl (.inl rfl)) (pgs_cons (pg_name (i := 6) nd rfl (.inl rfl)) pgs_nil))))
      (pss_cons (ps_expr (pe_call G2 (hr.mono (by decide)) (by rfl) m2 k2 b2 .nil pass0 (pa_cons (pv 4) pa_nil)))
      (pss_cons (ps_if (pt_cmpR op_eq (pv 4) (pe_glob (v := .str tabS) rfl eT ⟨_, rfl⟩) (nomark _))
        (pss_one (ps_ret (pe_methS (pv 0) X.cS M3 G3 hr b3 (fun σ => passAt (takes_of rfl rfl rfl rfl) σ) (pa_cons (pv 1) (pa_cons pe_int (pa_cons (pe_lst (pa_cons (pe_op op_catA (pv 5) (pv 6)) pa_nil)) pa_nil)))))) pss_nil)
      (pss_one (ps_ret (pe_methS (pv 0) X.cS M3 G3 hr b3 (fun σ => passAt (takes_of rfl rfl rfl rfl) σ) (pa_cons (pv 1) (pa_cons pe_int (pa_cons (pe_lst (pa_cons (pe_call G4 r1 (by rfl) m4 k4 b4 .nil pass0 (pa_cons (pe_call G4 r1 (by rfl) m4 k4 b4 .nil pass0 (pa_cons (pv 5) (pa_cons (pe_tup (pa_cons (pv 4) pa_nil)) pa_nil))) (pa_cons (pv 6) pa_nil))) pa_nil)) pa_nil)))))))), ?_⟩
    obtain ⟨dx, h1⟩ := hS.she
    obtain ⟨p1, p2, p3⟩ := pl
    have hR := rowN_ok hS.ok p1
    have hlA : RowL (halvA (rowN rows n) c k) 6 10 := halvA_l hR.loose p2
    have hlB : RowL (halvB (rowN rows n) c k) 6 10 := halvB_l hR.loose p2
    have lA := hlA.len
    have lB := hlB.len
    refine ⟨_, rfl, sh, S, dx, _, _, rfl, h1, X.cS, X.nRows, rfl, _, rfl, _, rfl, _, rfl, rl, as, rows, n, c, k, rowN rows n, rfl, hS.page, rowN_get p1, hR, p2, p3, fun t pA pB H1 x1 ht hA hB => ?_⟩
    refine ⟨t, _, rfl, SqT.of ht, rfl, _, _, rfl, _, _, rfl, rfl, ?_⟩
    have e1 := ex_same hT x1
    refine ⟨_, rfl, z, rfl, e1.tab, hz, fun H2 x2 => ?_⟩
    have hA2 := x2.sqT hA
    have hB2 := x2.sqT hB
    have x02 := e1.trans x2
    have hS2 := hS.gw x02.ext
    obtain ⟨dx2, h21⟩ := hS2.she
    refine ⟨_, rfl, rfl, _, rfl, ?_⟩
    rw [str_decD]
    have e : cutD rows (.strike n c k z) = some (n, 1, [if z = tabS then halvA (rowN rows n) c k ++ halvB (rowN rows n) c k else joinR (joinR (halvA (rowN rows n) c k) [z]) (halvB (rowN rows n) c k)]) := rfl
    by_cases hz2 : z = tabS
    · rw [decide_eq_true hz2]
      rw [if_pos hz2] at e
      refine iteT ⟨_, rfl, sh, dx2, _, rfl, h21, rfl, _, rfl, _, rfl, _, rfl, cat_rows hA2 hB2 (by omega) fun q H3 x3 hq => ⟨by show 1 ≤ sizeLine; decide, fun nl nn => ?_⟩⟩
      have y4 : Same H3 (upd H3 nl (.lst [.ref q])) := same_new nn
      have y24 := same_tr x3 y4
      have hS4 := hS2.gw (same_ext y24)
      obtain ⟨n1, n2⟩ := (hS2.gw (same_ext x3)).nnew nn
      exact lay_go (nas := [q]) (m := 1) ha (x02.trans (ex_same x02.tab y24)) e hS4 hps upd_same n1 n2 (rows1 (same_sqT y4 hq)) (by show 1 ≤ 2; decide) (fun r' hr' => by
        rw [List.mem_singleton.mp hr']
        refine ⟨by rw [List.length_append]; have := hlA.pos; omega, by rw [List.length_append]; omega, fun y hy => ?_⟩
        rcases List.mem_append.mp hy with q' | q'
        · exact (hlA.cells y q').mono (by decide)
        · exact (hlB.cells y q').mono (by decide)) (by omega)
    · rw [decide_eq_false hz2]
      rw [if_neg hz2] at e
      have hz1 : Sgs z 1 := by
        rcases hz with q | q
        · exact absurd q hz2
        · exact q.1
      refine iteF ⟨_, rfl, sh, dx2, _, rfl, h21, rfl, _, rfl, _, rfl, _, rfl, by show 1 ≤ sizeLine; decide, fun ps1 np1 => ?_⟩
      have y3 : Same H2 (upd H2 ps1 (.tup [.str z])) := same_new np1
      have hJ1 : RowL (joinR (halvA (rowN rows n) c k) [z]) (6 + 100 - 1) (10 + 100) := joinR_l hlA (sign1 hz1)
      have hJ0 := joinR_l (b := [z]) hlA (n' := 1) (m' := 1) ⟨by simp, by simp, fun y hy => by rw [List.mem_singleton.mp hy]; exact hz1⟩
      have hJ2 := joinR_l hJ0 hlB
      refine ⟨pA, ps1, _, [z], rfl, same_sqT y3 hA2, SqT.of upd_same, hlA.mono (by decide) (by decide), sign1 hz1, fun q1 H4 x4 hq1 => ?_⟩
      refine ⟨_, rfl, q1, pB, _, _, rfl, hq1, same_sqT (same_tr y3 x4) hB2, hJ0.mono (by decide) (by decide), hlB.mono (by decide) (by decide), fun q2 H5 x5 hq2 => ⟨by show 1 ≤ sizeLine; decide, fun nl nn => ?_⟩⟩
      have y6 : Same H5 (upd H5 nl (.lst [.ref q2])) := same_new nn
      have y25 := same_tr (same_tr y3 x4) x5
      have y26 := same_tr y25 y6
      have hS6 := hS2.gw (same_ext y26)
      obtain ⟨n1, n2⟩ := (hS2.gw (same_ext y25)).nnew nn
      exact lay_go (nas := [q2]) (m := 1) ha (x02.trans (ex_same x02.tab y26)) e hS6 hps upd_same n1 n2 (rows1 (same_sqT y6 hq2)) (by show 1 ≤ 2; decide) (fun r' hr' => by
        rw [List.mem_singleton.mp hr']
        exact hJ2.mono (by decide) (by decide)) (by omega)
theorem ok_erase {f g1 g2 g3 g4 : Addr} {fd fd1 fd2 fd3 fd4 : FuncData} (X : ShC K S) (F : Fun K "erase" "Sheet.erase" (mth nSheet 5) f fd)
    (G1 : FnOk P w K mg base CX0 3 g1 fd1 ["rows", "number", "cell", "place"] (spHalf K)) (k1 : PySem.W.keepIn K (.ref g1) = true) (b1 : Binds K fd1 ["rows", "number", "cell", "place"] []) (m1 : mg "halves" = some (.ref g1))
    (G2 : FnOk P w K mg base (L2.CX P w) 1 g2 fd2 ["row"] (spLess K C)) (k2 : PySem.W.keepIn K (.ref g2) = true) (b2 : Binds K fd2 ["row"] []) (m2 : mg "without_first" = some (.ref g2))
    (G4 : FnOk P w K mg base CX0 1 g4 fd4 ["ahead", "behind"] (spJoin K)) (k4 : PySem.W.keepIn K (.ref g4) = true) (b4 : Binds K fd4 ["ahead", "behind"] []) (m4 : mg "joined" = some (.ref g4))
    (M3 : Meth K S "lay" g3) (G3 : FnOk P w K mg base (L2.CX P w) 16 g3 fd3 ["self", "number", "many", "rows"] (spLay K cs S R C)) (b3 : Binds K fd3 ["self", "number", "many", "rows"] []) :
    FnOk P w K mg base (L2.CX P w) 17 f fd ["self", "number", "cell", "place"] (spErase K cs S R C) := by
  refine F.okX sc_erase (fun vs H Q E h => ?_) (fun cdv A outer s H vs Q E hr h => ?_)
  · obtain ⟨sh, n, c, k, rfl, _⟩ := h
    rfl
  · obtain ⟨sh, n, c, k, rfl, rl, dl, st, as, rows, gap, least, ts, ps, av, hT, hS, hps, pl, ha⟩ := h
    have nd := sc_erase.nd
    have r1 : Room 1 _ := hr.mono (by decide)
    have r3 : Room 3 _ := hr.mono (by decide)
    refine ⟨_, pss_cons (ps_asg (pe_call G1 r3 (by rfl) m1 k1 b1 .nil pass0 (pa_cons (pe_fld (pv 0) rfl) (pa_cons (pv 1) (pa_cons (pv 2) (pa_cons (pv 3) pa_nil))))) (pg_tup rfl (pgs_cons (pg_name (i := 4) nd rfl (.inl rfl)) (pgs_cons (pg_name (i := 5) nd rfl (.inl rfl)) pgs_nil))))
      (pss_one (ps_ret (pe_methS (pv 0) X.cS M3 G3 hr b3 (fun σ => passAt (takes_of rfl rfl rfl rfl) σ) (pa_cons (pv 1) (pa_cons pe_int (pa_cons (pe_lst (pa_cons (pe_call G4 r1 (by rfl) m4 k4 b4 .nil pass0 (pa_cons (pv 4) (pa_cons (pe_callS G2 r1 (by rfl) m2 k2 b2 (fun σ => passAt (takes_of rfl rfl rfl rfl) σ) (pa_cons (pv 5) pa_nil)) pa_nil))) pa_nil)) pa_nil)))))), ?_⟩
    obtain ⟨dx, h1⟩ := hS.she
    have pl : PlOk rows n c k := pl
    obtain ⟨p1, p2, p3⟩ := pl
    have hR := rowN_ok hS.ok p1
    have hlA : RowL (halvA (rowN rows n) c k) 6 10 := halvA_l hR.loose p2
    have hlB : RowL (halvB (rowN rows n) c k) 6 10 := halvB_l hR.loose p2
    refine ⟨_, rfl, sh, S, dx, _, _, rfl, h1, X.cS, X.nRows, rfl, _, rfl, _, rfl, _, rfl, rl, as, rows, n, c, k, rowN rows n, rfl, hS.page, rowN_get p1, hR, p2, p3, fun t pA pB H1 x1 ht hA hB => ?_⟩
    refine ⟨t, _, rfl, SqT.of ht, rfl, _, _, rfl, _, _, rfl, rfl, ?_⟩
    have e1 := ex_same hT x1
    have hS1 := hS.gw (same_ext x1)
    obtain ⟨dx1, h11⟩ := hS1.she
    refine ⟨_, rfl, sh, dx1, _, rfl, h11, rfl, _, rfl, _, rfl, _, rfl, pB, _, rfl, hB, hlB.mono (by decide) (by decide), fun b hb q H2 x2 hq => ?_, fun hb => ?_⟩
    · have e : cutD rows (.erase n c k) = some (n, 1, [joinR (halvA (rowN rows n) c k) b]) := by
        show (lessR (halvB (rowN rows n) c k)).map _ = _
        rw [hb]
        rfl
      have hlb := lessR_l hlB hb
      have hJ := joinR_l hlA hlb
      refine ⟨pA, q, _, b, rfl, same_sqT x2 hA, hq, hlA.mono (by decide) (by decide), hlb.mono (by decide) (by decide), fun q2 H5 x5 hq2 => ⟨by show 1 ≤ sizeLine; decide, fun nl nn => ?_⟩⟩
      have y6 : Same H5 (upd H5 nl (.lst [.ref q2])) := same_new nn
      have y25 := same_tr (same_tr x1 x2) x5
      have y26 := same_tr y25 y6
      obtain ⟨n1, n2⟩ := (hS.gw (same_ext y25)).nnew nn
      exact lay_go (nas := [q2]) (m := 1) ha (ex_same hT y26) e (hS.gw (same_ext y26)) hps upd_same n1 n2 (rows1 (same_sqT y6 hq2)) (by show 1 ≤ 2; decide) (fun r' hr' => by
        rw [List.mem_singleton.mp hr']
        exact hJ.mono (by decide) (by decide)) (by omega)
    · have e : cutD rows (.erase n c k) = none := by
        show (lessR (halvB (rowN rows n) c k)).map _ = _
        rw [hb]
        rfl
      exact no_go ha e1 e (.inr rfl)
theorem ok_part {f g1 g3 : Addr} {fd fd1 fd3 : FuncData} (X : ShC K S) (F : Fun K "part" "Sheet.part" (mth nSheet 6) f fd)
    (G1 : FnOk P w K mg base CX0 3 g1 fd1 ["rows", "number", "cell", "place"] (spHalf K)) (k1 : PySem.W.keepIn K (.ref g1) = true) (b1 : Binds K fd1 ["rows", "number", "cell", "place"] []) (m1 : mg "halves" = some (.ref g1))
    (M3 : Meth K S "lay" g3) (G3 : FnOk P w K mg base (L2.CX P w) 16 g3 fd3 ["self", "number", "many", "rows"] (spLay K cs S R C)) (b3 : Binds K fd3 ["self", "number", "many", "rows"] []) :
    FnOk P w K mg base (L2.CX P w) 17 f fd ["self", "number", "cell", "place"] (spPart K cs S R C) := by
  refine F.okX sc_part (fun vs H Q E h => ?_) (fun cdv A outer s H vs Q E hr h => ?_)
  · obtain ⟨sh, n, c, k, rfl, _⟩ := h
    rfl
  · obtain ⟨sh, n, c, k, rfl, rl, dl, st, as, rows, gap, least, ts, ps, av, hT, hS, hps, pl, ha⟩ := h
    have nd := sc_part.nd
    have r3 : Room 3 _ := hr.mono (by decide)
    refine ⟨_, pss_cons (ps_asg (pe_call G1 r3 (by rfl) m1 k1 b1 .nil pass0 (pa_cons (pe_fld (pv 0) rfl) (pa_cons (pv 1) (pa_cons (pv 2) (pa_cons (pv 3) pa_nil))))) (pg_tup rfl (pgs_cons (pg_name (i := 4) nd rfl (.inl rfl)) (pgs_cons (pg_name (i := 5) nd rfl (.inl rfl)) pgs_nil))))
      (pss_one (ps_ret (pe_methS (pv 0) X.cS M3 G3 hr b3 (fun σ => passAt (takes_of rfl rfl rfl rfl) σ) (pa_cons (pv 1) (pa_cons pe_int (pa_cons (pe_lst (pa_cons (pv 4) (pa_cons (pv 5) pa_nil))) pa_nil)))))), ?_⟩
    obtain ⟨dx, h1⟩ := hS.she
    have pl : PlOk rows n c k := pl
    obtain ⟨p1, p2, p3⟩ := pl
    have hR := rowN_ok hS.ok p1
    have hlA : RowL (halvA (rowN rows n) c k) 6 10 := halvA_l hR.loose p2
    have hlB : RowL (halvB (rowN rows n) c k) 6 10 := halvB_l hR.loose p2
    refine ⟨_, rfl, sh, S, dx, _, _, rfl, h1, X.cS, X.nRows, rfl, _, rfl, _, rfl, _, rfl, rl, as, rows, n, c, k, rowN rows n, rfl, hS.page, rowN_get p1, hR, p2, p3, fun t pA pB H1 x1 ht hA hB => ?_⟩
    refine ⟨t, _, rfl, SqT.of ht, rfl, _, _, rfl, _, _, rfl, rfl, ?_⟩
    have hS1 := hS.gw (same_ext x1)
    obtain ⟨dx1, h11⟩ := hS1.she
    refine ⟨_, rfl, sh, dx1, _, rfl, h11, rfl, _, rfl, _, rfl, _, rfl, by show 2 ≤ sizeLine; decide, fun nl nn => ?_⟩
    have y6 : Same H1 (upd H1 nl (.lst [.ref pA, .ref pB])) := same_new nn
    obtain ⟨n1, n2⟩ := hS1.nnew nn
    have y26 := same_tr x1 y6
    exact lay_go (nas := [pA, pB]) (m := 1) ha (ex_same hT y26) rfl (hS.gw (same_ext y26)) hps upd_same n1 n2 (rows2 (same_sqT y6 hA) (same_sqT y6 hB)) (by show 2 ≤ 2; decide) (fun r' hr' => by
      rcases List.mem_cons.mp hr' with q | q
      · rw [q]; exact hlA.mono (by decide) (by decide)
      · rw [List.mem_singleton.mp q]; exact hlB.mono (by decide) (by decide)) (by omega)
theorem ok_unite {f g1 g3 g4 : Addr} {fd fd1 fd3 fd4 : FuncData} (T : Txt mg) (X : ShC K S) (F : Fun K "unite" "Sheet.unite" (mth nSheet 7) f fd)
    (G1 : FnOk P w K mg base (L2.CX P w) 2 g1 fd1 ["number", "last"] (spNum R)) (k1 : PySem.W.keepIn K (.ref g1) = true) (b1 : Binds K fd1 ["number", "last"] []) (m1 : mg "check_number" = some (.ref g1))
    (G4 : FnOk P w K mg base CX0 1 g4 fd4 ["ahead", "behind"] (spJoin K)) (k4 : PySem.W.keepIn K (.ref g4) = true) (b4 : Binds K fd4 ["ahead", "behind"] []) (m4 : mg "joined" = some (.ref g4))
    (M3 : Meth K S "lay" g3) (G3 : FnOk P w K mg base (L2.CX P w) 16 g3 fd3 ["self", "number", "many", "rows"] (spLay K cs S R C)) (b3 : Binds K fd3 ["self", "number", "many", "rows"] []) :
    FnOk P w K mg base (L2.CX P w) 17 f fd ["self", "number"] (spUnite K cs S R C) := by
  refine F.okX sc_unite (fun vs H Q E h => ?_) (fun cdv A outer s H vs Q E hr h => ?_)
  · obtain ⟨sh, n, rfl, _⟩ := h
    rfl
  · obtain ⟨sh, n, rfl, rl, dl, st, as, rows, gap, least, ts, ps, av, hT, hS, hps, d1, ha⟩ := h
    have d1 : n < rows.length := d1
    have r2 : Room 2 _ := hr.mono (by decide)
    have r1 : Room 1 _ := hr.mono (by decide)
    refine ⟨_, pss_cons (ps_expr (pe_callS G1 r2 (by rfl) m1 k1 b1 (fun σ => passAt (takes_of rfl rfl rfl rfl) σ) (pa_cons (pv 1) (pa_cons (pe_op op_sub (pe_callB call_len_seq (by rfl) T.len PySem.boot_len (pa_cons (pe_fld (pv 0) rfl) pa_nil)) pe_int) pa_nil))))
      (pss_one (ps_ret (pe_methS (pv 0) X.cS M3 G3 hr b3 (fun σ => passAt (takes_of rfl rfl rfl rfl) σ) (pa_cons (pv 1) (pa_cons pe_int (pa_cons (pe_lst (pa_cons (pe_call G4 r1 (by rfl) m4 k4 b4 .nil pass0 (pa_cons (pe_ix ix_list (pe_fld (pv 0) rfl) (pv 1) (fun _ _ => rfl)) (pa_cons (pe_ix ix_list (pe_fld (pv 0) rfl) (pe_op op_add (pv 1) pe_int) (fun _ _ => rfl)) pa_nil))) pa_nil)) pa_nil)))))), ?_⟩
    obtain ⟨dx, h1⟩ := hS.she
    have la : (as.map V.ref).length = rows.length := by rw [List.length_map, hS.at_.len]
    refine ⟨_, rfl, _, rfl, sh, S, dx, _, _, rfl, h1, X.cS, X.nRows, rfl, rl, _, rfl, .inl hS.page.lst, _, _, rfl, rfl, _, _, rfl, fun hy => ?_, fun hn => ?_⟩
    · rw [la] at hy
      have hn1 : n + 1 < rows.length := by omega
      have e : cutD rows (.unite n) = some (n, 2, [joinR (rowN rows n) (rowN rows (n + 1))]) := if_pos hn1
      obtain ⟨q0, hq0⟩ := getP (xs := as) (i := n) (by rw [hS.at_.len]; omega)
      obtain ⟨q1, hq1⟩ := getP (xs := as) (i := n + 1) (by rw [hS.at_.len]; omega)
      have hA := hS.at_.row n q0 _ hq0 (rowN_get d1)
      have hB := hS.at_.row (n + 1) q1 _ hq1 (rowN_get hn1)
      have hlA := (rowN_ok hS.ok d1).loose
      have hlB := (rowN_ok hS.ok hn1).loose
      have hJ := joinR_l hlA hlB
      refine ⟨_, rfl, sh, dx, _, rfl, h1, rfl, _, rfl, _, rfl, sh, S, dx, _, _, rfl, h1, X.cS, X.nRows, rfl, _, rfl, rl, _, _, .ref q0, rfl, rfl, hS.page.lst, atI_nat (by rw [List.getElem?_map, hq0]; rfl), _, rfl, sh, S, dx, _, _, rfl, h1, X.cS, X.nRows, rfl, _, rfl, _, _, rfl, rfl, rl, _, _, .ref q1, rfl, rfl, hS.page.lst, ?_, ?_⟩
      · rw [show ((n : Nat) : Int) + 1 = ((n + 1 : Nat) : Int) by omega]
        exact atI_nat (by rw [List.getElem?_map, hq1]; rfl)
      · refine ⟨q0, q1, _, _, rfl, hA, hB, hlA.mono (by decide) (by decide), hlB.mono (by decide) (by decide), fun q2 H5 x5 hq2 => ⟨by show 1 ≤ sizeLine; decide, fun nl nn => ?_⟩⟩
        have y6 : Same H5 (upd H5 nl (.lst [.ref q2])) := same_new nn
        have y26 := same_tr x5 y6
        obtain ⟨n1, n2⟩ := (hS.gw (same_ext x5)).nnew nn
        exact lay_go (nas := [q2]) (m := 2) ha (ex_same hT y26) e (hS.gw (same_ext y26)) hps upd_same n1 n2 (rows1 (same_sqT y6 hq2)) (by show 1 ≤ 2; decide) (fun r' hr' => by
          rw [List.mem_singleton.mp hr']
          exact hJ.mono (by decide) (by decide)) (by omega)
    · rw [la] at hn
      have e : cutD rows (.unite n) = none := if_neg (by omega)
      exact no_go ha (Ex.refl hT) e (.inl rfl)
/-- Sheet.back -/
def spBackD (K : PySem.W.Frag) (cs : List (Addr × Addr)) (S : Addr) : Sp := fun vs H Q _ => ∃ (sh rl dl st : Addr) (as : List Addr) (rows : List (List Str)) (gap least : Int) (ts : List Addr) (ps : List (List (List Str))) (av : Addr → Prop), vs = [.ref sh] ∧ Tabs cs H ∧ ShtD K S H sh rl dl st as rows gap least ts ps av ∧
  (ps = [] → Q (.bl false) H) ∧ (∀ rows' ps', ps = rows' :: ps' → ∀ as' ts' H', ExtS cs rl dl H H' → Tabs cs H' → (∀ b, H' b = none → H b = none) → ShtD K S H' sh rl dl st as' rows' gap least ts' ps' av → Q (.bl true) H')
theorem ok_backD {f : Addr} {fd : FuncData} (T : Txt mg) (X : ShC K S) (F : Fun K "back" "Sheet.back" (mth nSheet 8) f fd) : FnOk P w K mg base CX0 1 f fd ["self"] (spBackD K cs S) := by
  refine F.ok sc_back (fun vs H Q E h => ?_) (fun cdv A outer s H vs Q E hr h => ?_)
  · obtain ⟨sh, rl, dl, st, as, rows, gap, least, ts, ps, av, rfl, _⟩ := h
    rfl
  · obtain ⟨sh, rl, dl, st, as, rows, gap, least, ts, ps, av, rfl, hT, hS, k1, k2⟩ := h
    have nd := sc_back.nd
    refine ⟨_, pss_cons (ps_if (pt_cmpR op_eq (pe_callB call_len_seq (by rfl) T.len PySem.boot_len (pa_cons (pe_fld (pv 0) rfl) pa_nil)) pe_int (nomark _)) (pss_one (ps_ret pe_bl)) pss_nil)
      (pss_cons (ps_asg (pe_bm0 PySem.F.plainAttrs_list PySem.F.slot_list_pop PySem.F.type_list_pop mt_pop (pe_fld (pv 0) rfl)) (pg_tup rfl (pgs_cons (pg_name (i := 1) nd rfl (.inl rfl)) (pgs_cons (pg_name (i := 2) nd rfl (.inl rfl)) (pgs_cons (pg_name (i := 3) nd rfl (.inl rfl)) pgs_nil)))))
      (pss_cons (ps_asg (pv 3) (pg_slice (pe_fld (pv 0) rfl) (pv 1) (pe_op op_add (pv 1) (pv 2)))) (pss_one (ps_ret pe_bl)))), ?_⟩
    obtain ⟨dx, h1⟩ := hS.she
    obtain ⟨nsr, nsd⟩ := hS.ns
    have lt : (ts.reverse.map V.ref).length = ps.length := by rw [List.length_map, List.length_reverse, hS.past.len]
    refine ⟨_, rfl, sh, S, dx, _, _, rfl, h1, X.cS, X.nDeeds, rfl, dl, _, rfl, .inl (SqL.of hS.dl_), rfl, _, rfl, ?_⟩
    rw [lt]
    have hpast := hS.past
    cases ps with
    | nil => exact iteT (k1 rfl)
    | cons rows' ps' =>
      cases ts with
      | nil => unfold PastAt at hpast; exact hpast.elim
      | cons t ts' =>
        unfold PastAt at hpast
        obtain ⟨n, m, oas, l, g1, g2, g3, g4, ga, g5, g6, g7, g8, g9⟩ := hpast
        rw [decide_eq_false (fun z => by injection z with z; rw [List.length_cons] at z; omega)]
        have la : as.length = rows.length := hS.at_.len
        have h30 := hS.ok.len
        have szl : (1000 : Nat) < sizeLine := by decide
        have er : (t :: ts').reverse.map V.ref = ts'.reverse.map V.ref ++ [.ref t] := by rw [List.reverse_cons, List.map_append]; rfl
        have hdl := hS.dl_
        rw [er] at hdl
        refine iteF ⟨_, rfl, sh, S, dx, _, _, rfl, h1, X.cS, X.nDeeds, rfl, .inl ⟨rfl, _, SqL.of hdl⟩, dl, _, .ref t, rfl, rfl, hdl, by rw [List.length_append, List.length_singleton, Nat.add_sub_cancel]; simp, ?_⟩
        rw [List.dropLast_concat]
        have tdl : t ≠ dl := fun z => by rw [z, hdl] at g1; cases g1
        have trl : t ≠ rl := fun z => by rw [z, hS.rl_] at g1; cases g1
        refine ⟨t, _, rfl, SqT.of (by rw [upd_ne tdl]; exact g1), rfl, _, _, rfl, _, _, rfl, _, _, rfl, rfl, ?_⟩
        refine ⟨_, rfl, _, rfl, sh, S, dx, _, _, rfl, by rw [upd_ne nsd]; exact h1, X.cS, X.nRows, rfl, _, rfl, _, rfl, _, rfl, _, rfl, _, rfl, _, _, rfl, rfl, _, rfl, _, rfl, rl, l, _, _, rfl, rfl, by rw [upd_ne hS.ne]; exact hS.rl_, by rw [upd_ne g4]; exact g2, g3.symm, by omega, by omega, by rw [List.length_map]; omega, by rw [List.length_map, List.length_map]; omega, ?_⟩
        have eM : (as.map V.ref).take (((n : Nat) : Int)).toNat ++ oas.map V.ref ++ (as.map V.ref).drop ((((n : Nat) : Int) + ((m : Nat) : Int))).toNat = (splice as n m oas).map V.ref := by
          rw [show ((((n : Nat) : Int) + ((m : Nat) : Int))).toNat = n + m by omega, show (((n : Nat) : Int)).toNat = n by omega]
          unfold splice
          rw [List.map_append, List.map_append, List.map_take, List.map_drop]
        rw [eM]
        have x : ExtS cs rl dl H (upd (upd H dl (.lst (ts'.reverse.map V.ref))) rl (.lst ((splice as n m oas).map V.ref))) := fun b o h _ q1 q2 => by rw [upd_ne q1, upd_ne q2]; exact h
        refine k2 rows' ps' rfl (splice as n m oas) ts' _ x (tabs_lst (tabs_lst hT hS.dl_) (by rw [upd_ne hS.ne]; exact hS.rl_)) (fun b hb => ?_) ⟨⟨dx, by rw [upd_ne nsr, upd_ne nsd]; exact h1⟩, upd_same, by rw [upd_ne hS.ne.symm, upd_same], hS.ne, g7.exs x hS.rl_ hS.dl_, g8, hS.style.exs x hS.rl_ hS.dl_, g9.exs x hS.rl_ hS.dl_, hS.live2 x upd_same (by rw [upd_ne hS.ne.symm]; exact upd_same)⟩
        by_cases q1 : b = rl
        · rw [q1, upd_same] at hb; cases hb
        · rw [upd_ne q1] at hb
          by_cases q2 : b = dl
          · rw [q2, upd_same] at hb; cases hb
          · rw [upd_ne q2] at hb; exact hb
end
end TGK

namespace TGK
open TG
open PySem PySem.Spec PyProof.Rows L2 Gx EnT
section
variable {P : Program} {w : World} {K : PySem.W.Frag} {mg : Str → Option Value} {base : Heap} {cs : List (Addr × Addr)}
def spRowSp (K : PySem.W.Frag) : Sp := fun vs H Q _ => ∃ (q : Addr) (r : List Str), vs = [.ref q] ∧ SqT K H q (sV r) ∧ RowOk r ∧ ∀ (D : Addr) (H' : Hp), TupL H D ((rowSp r).map v2) H' → Q (.ref D) H'
abbrev nmRS : List Str := ["row", "cell", "text", "place"]
theorem sc_rs : FnScope nmRS ["row"] (defScope s_row_spots) := ⟨rfl, rfl, rfl, by decide +kernel, rfl, by decide +kernel, by decide +kernel⟩
theorem ok_rowspots {f : Addr} {fd : FuncData} (T : Txt mg) (F : Fun K "row_spots" "row_spots" s_row_spots f fd) : FnOk P w K mg base CX0 1 f fd ["row"] (spRowSp K) := by
  refine F.ok sc_rs (fun vs H Q E h => ?_) (fun cdv A outer s H vs Q E hr h => ?_)
  · obtain ⟨q, r, rfl, _⟩ := h
    rfl
  · obtain ⟨q, r, rfl, hS, hR, k⟩ := h
    have nd := sc_rs.nd
    have szl : (2000 : Nat) < sizeLine := by decide
    refine ⟨_, pss_one (ps_ret (pe_lc2 (own := [("cell", 1), ("text", 2), ("place", 3)]) (vs1 := [3]) (g := gTup K 2 (gCons (gName 1) (gCons (gName 2) gNil))) (tt := tYes) (g1 := gName 3) (tt1 := tYes) rfl nd (pi_enumT (by rfl) T.enum (pv 0)) (blkOk_by (own := [("cell", 1), ("text", 2), ("place", 3)]) (N := nmRS) (sc := defScope s_row_spots) (by decide +kernel)) (by decide)
      (fun _ _ _ _ _ => pg_tup rfl (pgs_cons (pg_name (i := 1) nd rfl (.inl rfl) (.inr rfl)) (pgs_cons (pg_name (i := 2) nd rfl (.inl rfl) (.inr rfl)) pgs_nil))) (fun _ _ _ _ _ => pts_nil)
      (fun _ _ _ _ _ => pi_range1 (by rfl) T.range (pa_cons (pe_op op_add (pe_callB call_len_str (by rfl) T.len PySem.boot_len (pa_cons (pv 2) pa_nil)) pe_int) pa_nil)) (fun _ _ _ _ _ => pg_name (i := 3) nd rfl (Or.inl rfl)) (fun _ _ _ _ _ => pts_nil)
      (fun _ _ _ _ _ => pe_tup (pa_cons (pv 1) (pa_cons (pv 3) pa_nil))))), ?_⟩
    refine ⟨_, rfl, q, _, rfl, hS, fun D nD => lc2_it (walk_enumT (xs := sV r)) (fun i H' => TupL H D ((rowTo r i).map v2) H') (TupL.start nD) (fun i H' _ o => same_sqT o.sm hS) ?_ ?_⟩
    · rintro i x H3 H4 hi o ⟨Tp, v, u, rfl, hn, rfl, hv, hu⟩
      cases hv
      obtain ⟨z, hz, rfl⟩ := get_map hu
      have hc := (List.getElem?_eq_some_iff.mp hz).1
      have hz10 := (hR.cells z (List.mem_of_getElem? hz)).len
      have o4 := o.grow (same_new (o := .tup [.int (i : Nat), .str z]) hn)
      have hTp : upd H3 Tp (.tup [.int (i : Nat), .str z]) Tp = some (.tup [.int (i : Nat), .str z]) := upd_same
      generalize upd H3 Tp (.tup [.int (i : Nat), .str z]) = H4 at o4 hTp ⊢
      have ez : r.getD i nilS = z := by rw [List.getD_eq_getElem?_getD, hz]; rfl
      have hl6 := hR.len
      have hrl := rowSp_len hR (n := i) (by omega)
      refine ⟨Tp, _, rfl, .inl (.inl hTp), rfl, _, _, rfl, _, _, rfl, rfl, rfl, _, rfl, z, rfl, by omega, _, _, rfl, rfl, _, rfl, by omega, by omega, lc2_in (walk_range (lo := 0) (n := (((z.length : Nat) : Int) + 1).toNat)) (fun j H' => TupL H D ((rowTo r i ++ (List.range j).map fun k => (i, k)).map v2) H') ?_ (fun _ _ _ _ => trivial) ?_ ?_⟩
      · rw [List.range_zero, List.map_nil, List.append_nil]
        exact o4
      · rintro j x H5 H6 hj o5 ⟨rfl, rfl⟩
        refine ⟨rfl, _, rfl, _, rfl, by show 2 ≤ sizeLine; decide, fun t nt => ?_⟩
        have o6 := o5.grow (same_new (o := .tup [.int (i : Nat), .int (0 + (j : Nat))]) nt)
        obtain ⟨acc, h1, h2, h3⟩ := o6.more (t := t) (v := [.int (i : Nat), .int (0 + (j : Nat))]) upd_same
        refine ⟨acc, h1, ?_, ?_⟩
        · rw [h2, List.length_map, List.length_append, List.length_map, List.length_range]
          omega
        · have e : rowTo r i ++ (List.range (j + 1)).map (fun k => (i, k)) = (rowTo r i ++ (List.range j).map fun k => (i, k)) ++ [(i, j)] := by rw [List.range_succ, List.map_append, List.append_assoc]; rfl
          rw [e, List.map_append]
          have e0 : (0 + ((j : Nat) : Int)) = ((j : Nat) : Int) := Int.zero_add _
          simp only [e0] at h3 ⊢
          exact h3
      · intro H5 o5
        rw [rowTo_succ, ez]
        have e : (((z.length : Nat) : Int) + 1).toNat = z.length + 1 := by omega
        rw [e] at o5
        exact o5
    · intro H3 o
      rw [List.length_map] at o
      exact k D H3 o
def spPageSp (K : PySem.W.Frag) : Sp := fun vs H Q _ => ∃ (a : Addr) (as : List Addr) (rows : List (List Str)), vs = [.ref a] ∧ PageAt K H a as rows ∧ PgOk rows ∧ ∀ (D : Addr) (H' : Hp), TupL H D ((pageSp rows).map v3) H' → Q (.ref D) H'
abbrev nmPS : List Str := ["page", "number", "row", "cell", "place"]
theorem sc_psp : FnScope nmPS ["page"] (defScope s_page_spots) := ⟨rfl, rfl, rfl, by decide +kernel, rfl, by decide +kernel, by decide +kernel⟩
theorem ok_pagespots {f g : Addr} {fd fdg : FuncData} (T : Txt mg) (F : Fun K "page_spots" "page_spots" s_page_spots f fd)
    (G : FnOk P w K mg base CX0 1 g fdg ["row"] (spRowSp K)) (kp : PySem.W.keepIn K (.ref g) = true) (bd : Binds K fdg ["row"] []) (mgg : mg "row_spots" = some (.ref g)) : FnOk P w K mg base CX0 2 f fd ["page"] (spPageSp K) := by
  refine F.ok sc_psp (fun vs H Q E h => ?_) (fun cdv A outer s H vs Q E hr h => ?_)
  · obtain ⟨a, as, rows, rfl, _⟩ := h
    rfl
  · obtain ⟨a, as, rows, rfl, hP, hO, k⟩ := h
    have nd := sc_psp.nd
    have szl : (2000 : Nat) < sizeLine := by decide
    refine ⟨_, pss_one (ps_ret (pe_lc2 (own := [("number", 1), ("row", 2), ("cell", 3), ("place", 4)]) (vs1 := [3, 4]) (g := gTup K 2 (gCons (gName 1) (gCons (gName 2) gNil))) (tt := tYes) (wi1 := iList K (tCall (spRowSp K) [] E0 (tCons (tVar 2) tNil))) (g1 := gTup K 2 (gCons (gName 3) (gCons (gName 4) gNil))) (tt1 := tYes) rfl nd (pi_enum (by rfl) T.enum (pa_cons (pv 0) pa_nil)) (blkOk_by (own := [("number", 1), ("row", 2), ("cell", 3), ("place", 4)]) (N := nmPS) (sc := defScope s_page_spots) (by decide +kernel)) (by decide)
      (fun _ _ _ _ _ => pg_tup rfl (pgs_cons (pg_name (i := 1) nd rfl (.inl rfl) (.inr rfl)) (pgs_cons (pg_name (i := 2) nd rfl (.inl rfl) (.inr rfl)) pgs_nil))) (fun _ _ _ _ _ => pts_nil)
      (fun _ _ _ _ _ => pi_list (pe_call G hr (by rfl) mgg kp bd .nil pass0 (pa_cons (pv 2) pa_nil))) (fun _ _ _ _ _ => pg_tup rfl (pgs_cons (pg_name (i := 3) nd rfl (.inl rfl) (.inr rfl)) (pgs_cons (pg_name (i := 4) nd rfl (.inl rfl) (.inr rfl)) pgs_nil))) (fun _ _ _ _ _ => pts_nil)
      (fun _ _ _ _ _ => pe_tup (pa_cons (pv 1) (pa_cons (pv 3) (pa_cons (pv 4) pa_nil)))))), ?_⟩
    refine ⟨_, rfl, a, _, rfl, hP.lst, fun D nD => lc2_it (walk_enum (xs := as.map V.ref)) (fun i H' => TupL H D ((pageTo rows i).map v3) H') (TupL.start nD) (fun i H' _ o => same_sqL o.sm hP.lst) ?_ ?_⟩
    · rintro i x H3 H4 hi o ⟨Tp, v, u, rfl, hn, rfl, hv, hu⟩
      cases hv
      obtain ⟨q, hq, rfl⟩ := get_map hu
      obtain ⟨r, hr2⟩ := getP (xs := rows) (i := i) (by rw [← hP.len]; exact (List.getElem?_eq_some_iff.mp hq).1)
      have hi2 := (List.getElem?_eq_some_iff.mp hr2).1
      have hR := hO.rows r (List.mem_of_getElem? hr2)
      have o4 := o.grow (same_new (o := .tup [.int (i : Nat), .ref q]) hn)
      have hTp : upd H3 Tp (.tup [.int (i : Nat), .ref q]) Tp = some (.tup [.int (i : Nat), .ref q]) := upd_same
      generalize upd H3 Tp (.tup [.int (i : Nat), .ref q]) = H4 at o4 hTp ⊢
      have er : rows.getD i [] = r := by rw [List.getD_eq_getElem?_getD, hr2]; rfl
      have hl30 := hO.len
      have hpl := pageSp_len hO (n := i) (by omega)
      have hrl := rowSp_len hR (Nat.le_refl _)
      have hl6 := hR.len
      have hrs : (rowSp r).length ≤ 66 := by
        have : rowSp r = rowTo r r.length := rfl
        rw [this]
        omega
      refine ⟨Tp, _, rfl, .inl (.inl hTp), rfl, _, _, rfl, _, _, rfl, rfl, rfl, _, rfl, q, r, rfl, same_sqT o4.sm (hP.row i q r hq hr2), hR, fun D5 H5 o5 => ?_⟩
      obtain ⟨ts, ht1, ht2, ht3⟩ := o5.ts
      have lt : (ts.map V.ref).length = (rowSp r).length := by rw [List.length_map, ht2, List.length_map]
      refine ⟨D5, rfl, ⟨_, SqL.of ht1⟩, lc2_in (walk_list (xs := ts.map V.ref)) (fun j H' => TupL H D ((pageTo rows i ++ ((rowSp r).take j).map fun p => (i, p.1, p.2)).map v3) H' ∧ H' D5 = some (.lst (ts.map V.ref)) ∧ ∀ (j : Nat) (t : Addr) (v : List V), ts[j]? = some t → ((rowSp r).map v2)[j]? = some v → H' t = some (.tup v)) ⟨?_, ht1, ht3⟩ (fun j H' _ o => SqL.of o.2.1) ?_ ?_⟩
      · rw [List.take_zero, List.map_nil, List.append_nil]
        exact o4.grow o5.sm
      · rintro j x H6 H7 hj ⟨o6, g1, g2⟩ ⟨rfl, hx⟩
        obtain ⟨t, ht, rfl⟩ := get_map hx
        have hj2 : j < (rowSp r).length := by omega
        obtain ⟨p, hp⟩ := getP (xs := rowSp r) (i := j) hj2
        have gt := g2 j t (v2 p) ht (by rw [List.getElem?_map, hp]; rfl)
        refine ⟨t, _, rfl, .inl (.inl gt), rfl, _, _, rfl, _, _, rfl, rfl, rfl, _, rfl, _, rfl, _, rfl, by show 3 ≤ sizeLine; decide, fun s ns => ?_⟩
        have o7 := o6.grow (same_new (o := .tup [.int (i : Nat), .int (p.1 : Nat), .int (p.2 : Nat)]) ns)
        obtain ⟨acc, h1, h2, h3⟩ := o7.more (t := s) (v := [.int (i : Nat), .int (p.1 : Nat), .int (p.2 : Nat)]) upd_same
        have e : pageTo rows i ++ ((rowSp r).take (j + 1)).map (fun p => (i, p.1, p.2)) = (pageTo rows i ++ ((rowSp r).take j).map fun p => (i, p.1, p.2)) ++ [(i, p.1, p.2)] := by
          rw [List.take_add_one, hp, List.map_append, List.append_assoc]
          rfl
        refine ⟨acc, h1, ?_, ?_, ?_, fun j t v e1 e2 => ?_⟩
        · rw [h2, List.length_map, List.length_append, List.length_map, List.length_take]
          omega
        · rw [e, List.map_append]
          exact h3
        · have n1 : D5 ≠ D := fun z => by
            have := o5.nD
            obtain ⟨ts4, w1, _⟩ := o4.ts
            rw [z, w1] at this
            cases this
          rw [upd_ne n1, upd_ne (ne_of_none g1 ns)]
          exact g1
        · have w := g2 j t v e1 e2
          have n1 : t ≠ D := fun z => by
            obtain ⟨ts6, w1, _⟩ := o6.ts
            rw [z, w1] at w
            cases w
          rw [upd_ne n1, upd_ne (ne_of_none w ns)]
          exact w
      · rintro H6 ⟨o6, _⟩
        rw [pageTo_succ, er]
        rw [lt, List.take_of_length_le (Nat.le_refl _)] at o6
        exact o6
    · intro H3 o
      rw [List.length_map, hP.len] at o
      exact k D H3 o
end
end TGK

namespace TGK
open TG
open PySem PySem.Spec PyProof.Rows L2 Gx EnT
/-! ### what deeds change -/
/-- all but some lists and objects stays -/
def KM (A : Addr → Prop) (H H' : Hp) : Prop := ∀ c o, H c = some o → (∀ ps, o ≠ .tbl ps) → ¬ A c → H' c = some o
def Mob (H : Hp) (A : Addr → Prop) : Prop := ∀ c, A c → (∃ us, H c = some (.lst us)) ∨ (∃ C dx fs, H c = some (.ins C dx fs))
section
variable {K : PySem.W.Frag} {A B : Addr → Prop} {H H1 H' : Hp}
def KN (cs : List (Addr × Addr)) (A : Addr → Prop) (H H' : Hp) : Prop := ∀ c o, H c = some o → NT cs c o → ¬ A c → H' c = some o
theorem KN.w {cs : List (Addr × Addr)} (x : KN cs A H H') : KM A H H' := fun c o h n m => x c o h (.inl n) m
theorem KN.of {cs : List (Addr × Addr)} (x : XN cs H H') : KN cs A H H' := fun c o h n _ => x c o h n
theorem KN.tr {cs : List (Addr × Addr)} (x : KN cs A H H1) (y : KN cs A H1 H') : KN cs A H H' := fun c o h n m => y c o (x c o h n m) n m
theorem KM.of (x : LamX.ExtN H H') : KM A H H' := fun c o h n _ => x c o h n
theorem KM.tr (x : KM A H H1) (y : KM A H1 H') : KM A H H' := fun c o h n m => y c o (x c o h n m) n m
theorem KM.mono (x : KM A H H') (h : ∀ c, A c → B c) : KM B H H' := fun c o e n m => x c o e n fun z => m (h c z)
theorem Mob.km (m : Mob H B) (x : KM A H H') (a : Mob H' A) : Mob H' B := fun c hc => by
  by_cases q : A c
  · exact a c q
  · rcases m c hc with ⟨us, e⟩ | ⟨C, dx, fs, e⟩
    · exact .inl ⟨us, x _ _ e (fun ps z => by cases z) q⟩
    · exact .inr ⟨C, dx, fs, x _ _ e (fun ps z => by cases z) q⟩
theorem Mob.gw (m : Mob H A) (x : LamX.ExtN H H') : Mob H' A := fun c hc => by
  rcases m c hc with ⟨us, e⟩ | ⟨C, dx, fs, e⟩
  · exact .inl ⟨us, x _ _ e fun ps z => by cases z⟩
  · exact .inr ⟨C, dx, fs, x _ _ e fun ps z => by cases z⟩
theorem Mob.live (m : Mob H A) : Live H A := fun c hc => by
  rcases m c hc with ⟨us, e⟩ | ⟨C, dx, fs, e⟩
  · exact ⟨_, e, fun ps z => by cases z⟩
  · exact ⟨_, e, fun ps z => by cases z⟩
theorem sqT_km {t : Addr} {xs : List V} (x : KM A H H') (m : Mob H A) (h : SqT K H t xs) : SqT K H' t xs := by
  rcases h with (h | ⟨u, h⟩) | h
  · refine .inl (.inl (x _ _ h (fun ps z => by cases z) fun z => ?_))
    rcases m _ z with ⟨us, e⟩ | ⟨C, dx, fs, e⟩ <;> rw [e] at h <;> cases h
  · refine .inl (.inr ⟨u, x _ _ h (fun ps z => by cases z) fun z => ?_⟩)
    rcases m _ z with ⟨us, e⟩ | ⟨C, dx, fs, e⟩ <;> rw [e] at h <;> cases h
  · exact .inr h
theorem tup_km {t : Addr} {xs : List V} (x : KM A H H') (m : Mob H A) (h : H t = some (.tup xs)) : H' t = some (.tup xs) :=
  x _ _ h (fun ps z => by cases z) fun z => by
    rcases m _ z with ⟨us, e⟩ | ⟨C, dx, fs, e⟩ <;> rw [e] at h <;> cases h
theorem RowsAt.km {as : List Addr} {rows : List (List Str)} (x : KM A H H') (m : Mob H A) (p : RowsAt K H as rows) : RowsAt K H' as rows := ⟨p.len, fun i q r e1 e2 => sqT_km x m (p.row i q r e1 e2)⟩
theorem PastAt.km {rl dl : Addr} {av : Addr → Prop} (x : KM A H H') (m : Mob H A) (h : ∀ c us, A c → H c = some (.lst us) → av c) : ∀ {ts : List Addr} {as : List Addr} {ps : List (List (List Str))}, PastAt K H rl dl av as ts ps → PastAt K H' rl dl av as ts ps
  | [], _, [], _ => by unfold PastAt; trivial
  | [], _, _ :: _, h => by unfold PastAt at h; exact h.elim
  | _ :: _, _, [], h => by unfold PastAt at h; exact h.elim
  | t :: ts, as, rows :: ps, g => by
    unfold PastAt at g ⊢
    obtain ⟨n, k, oas, lo, g1, g2, g3, g4, ga, g5, g6, g7, g8, g9⟩ := g
    exact ⟨n, k, oas, lo, tup_km x m g1, x _ _ g2 (fun ps z => by cases z) (fun z => ga (h _ _ z g2)), g3, g4, ga, g5, g6, g7.km x m, g8, PastAt.km x m h g9⟩
theorem kb_km {b l : Addr} (x : KB b l H H') : KM (fun c => c = b ∨ c = l) H H' := fun c o h _ n => x c o h (fun z => n (.inl z)) fun z => n (.inr z)
theorem box_mob {b l : Addr} (h : BoxAt H b l) : Mob H (fun c => c = b ∨ c = l) := by
  obtain ⟨ns, s1, e1, e2, _⟩ := h
  exact fun c z => .inl (z.elim (fun e => e ▸ ⟨_, e1⟩) fun e => e ▸ ⟨_, e2⟩)
theorem upd_km {a : Addr} {o : HO} : KM (fun c => c = a) H (upd H a o) := fun c u h _ n => by rw [upd_ne n]; exact h
end
section
variable {K : PySem.W.Frag} {S : Addr} {A : Addr → Prop} {H H' : Hp} {sh rl dl st : Addr} {as : List Addr} {rows : List (List Str)} {gap least : Int} {ts : List Addr} {ps : List (List (List Str))} {av av2 : Addr → Prop}
theorem ShtD.km (o : ShtD K S H sh rl dl st as rows gap least ts ps av) (x : KM A H H') (m : Mob H A) (m' : Mob H' A) (h : ∀ c us, A c → H c = some (.lst us) → av c) (n1 : ¬ A sh) (n2 : ¬ A rl) (n3 : ¬ A dl) : ShtD K S H' sh rl dl st as rows gap least ts ps av := by
  obtain ⟨dx, h1⟩ := o.she
  refine ⟨⟨dx, x _ _ h1 (fun ps z => by cases z) n1⟩, x _ _ o.rl_ (fun ps z => by cases z) n2, x _ _ o.dl_ (fun ps z => by cases z) n3, o.ne, o.at_.km x m, o.ok, ⟨sqT_km x m o.style.tup, o.style.g0, o.style.g1, o.style.l0, o.style.l1⟩, o.past.km x m h, fun y hy => ?_⟩
  by_cases q : A y
  · exact m'.live y q
  · obtain ⟨u, e, k⟩ := o.live y hy
    exact ⟨u, x _ _ e k q, k⟩
theorem ShtD.fresh (o : ShtD K S H sh rl dl st as rows gap least [] [] av) (h : Live H av2) : ShtD K S H sh rl dl st as rows gap least [] [] av2 :=
  ⟨o.she, o.rl_, o.dl_, o.ne, o.at_, o.ok, o.style, by unfold PastAt; trivial, h⟩
end
/-! ### cursors -/
structure CuC (K : PySem.W.Frag) (U S : Addr) : Prop where
  sh : ShC K S
  cC : Cls K U
  nSheet : NoAttr K U "sheet"
  nSpot : NoAttr K U "spot"
structure CurD (K : PySem.W.Frag) (U S : Addr) (H : Hp) (cu sh rl dl st : Addr) (as : List Addr) (rows : List (List Str)) (gap least : Int) (ts : List Addr) (ps : List (List (List Str))) (av : Addr → Prop) (p : Nat × Nat × Nat) : Prop where
  cur : ∃ dx sp, H cu = some (.ins U dx [("sheet", .ref sh), ("spot", .ref sp)]) ∧ SqT K H sp (v3 p)
  sht : ShtD K S H sh rl dl st as rows gap least ts ps av
  mem : p ∈ pageSp rows
/-- all but a cursor, its rows and its deeds stays -/
abbrev ofCur (cu rl dl : Addr) : Addr → Prop := fun c => c = cu ∨ c = rl ∨ c = dl
def ExtC (cs : List (Addr × Addr)) (cu : Addr) (H H' : Hp) : Prop := ∀ b o, H b = some o → NT cs b o → b ≠ cu → H' b = some o
theorem ExtC.of {cs : List (Addr × Addr)} {cu : Addr} {H H' : Hp} (x : XN cs H H') : ExtC cs cu H H' := fun b o h n _ => x b o h n
theorem ExtC.gw {cs : List (Addr × Addr)} {cu : Addr} {H H1 H' : Hp} (x : ExtC cs cu H H1) (y : XN cs H1 H') : ExtC cs cu H H' := fun b o h n m => y b o (x b o h n m) n
theorem ExtC.after {cs : List (Addr × Addr)} {cu : Addr} {H H1 H' : Hp} (x : XN cs H H1) (y : ExtC cs cu H1 H') : ExtC cs cu H H' := fun b o h n m => y b o (x b o h n) n m
theorem ExtC.km {cs : List (Addr × Addr)} {cu rl dl : Addr} {H H' : Hp} (x : ExtC cs cu H H') : KN cs (ofCur cu rl dl) H H' := fun c o h n m => x c o h n fun z => m (.inl z)
theorem ExtS.km {cs : List (Addr × Addr)} {cu rl dl : Addr} {H H' : Hp} (x : ExtS cs rl dl H H') : KN cs (ofCur cu rl dl) H H' := fun c o h n m => x c o h n (fun z => m (.inr (.inl z))) fun z => m (.inr (.inr z))
section
variable {K : PySem.W.Frag} {U S cu sh rl dl st : Addr} {H H' : Hp} {as : List Addr} {rows : List (List Str)} {gap least : Int} {ts : List Addr} {ps : List (List (List Str))} {av : Addr → Prop} {p : Nat × Nat × Nat} {A : Addr → Prop}
theorem CurD.gw (o : CurD K U S H cu sh rl dl st as rows gap least ts ps av p) (x : LamX.ExtN H H') : CurD K U S H' cu sh rl dl st as rows gap least ts ps av p := by
  obtain ⟨dx, sp, h1, h2⟩ := o.cur
  refine ⟨⟨dx, sp, x _ _ h1 (fun ps z => by cases z), ?_⟩, o.sht.gw x, o.mem⟩
  rcases h2 with (h | ⟨u, h⟩) | h
  · exact .inl (.inl (x _ _ h fun ps z => by cases z))
  · exact .inl (.inr ⟨u, x _ _ h fun ps z => by cases z⟩)
  · exact .inr h
theorem CurD.km (o : CurD K U S H cu sh rl dl st as rows gap least ts ps av p) (x : KM A H H') (m : Mob H A) (m' : Mob H' A) (h : ∀ c us, A c → H c = some (.lst us) → av c) (n0 : ¬ A cu) (n1 : ¬ A sh) (n2 : ¬ A rl) (n3 : ¬ A dl) : CurD K U S H' cu sh rl dl st as rows gap least ts ps av p := by
  obtain ⟨dx, sp, h1, h2⟩ := o.cur
  exact ⟨⟨dx, sp, x _ _ h1 (fun ps z => by cases z) n0, sqT_km x m h2⟩, o.sht.km x m m' h n1 n2 n3, o.mem⟩
theorem CurD.mob (o : CurD K U S H cu sh rl dl st as rows gap least ts ps av p) : Mob H (ofCur cu rl dl) := fun c hc => by
  obtain ⟨dx, sp, h1, h2⟩ := o.cur
  rcases hc with e | e | e
  · exact .inr ⟨_, _, _, e ▸ h1⟩
  · exact .inl ⟨_, e ▸ o.sht.rl_⟩
  · exact .inl ⟨_, e ▸ o.sht.dl_⟩
theorem CurD.ncs (o : CurD K U S H cu sh rl dl st as rows gap least ts ps av p) : sh ≠ cu := fun z => by
  obtain ⟨dx, sp, h1, h2⟩ := o.cur
  obtain ⟨dx2, g1⟩ := o.sht.she
  rw [z, h1] at g1
  injection g1 with g1
  injection g1 with _ _ g1
  injection g1 with g1 _
  injection g1 with g1 _
  exact absurd g1 (by decide)
theorem CurD.ncl (o : CurD K U S H cu sh rl dl st as rows gap least ts ps av p) : cu ≠ rl ∧ cu ≠ dl := by
  obtain ⟨dx, sp, h1, h2⟩ := o.cur
  exact ⟨(fun z => by rw [z, o.sht.rl_] at h1; cases h1), (fun z => by rw [z, o.sht.dl_] at h1; cases h1)⟩
theorem ins_mob {C dx : Addr} {fs : List (Str × V)} (h : H cu = some (.ins C dx fs)) : Mob H (fun c => c = cu) := fun c hc => .inr ⟨_, _, _, hc ▸ h⟩
theorem ExtC.km1 {cs : List (Addr × Addr)} (x : ExtC cs cu H H') : KM (fun c => c = cu) H H' := fun c o h n m => x c o h (.inl n) m
/-- the cursor itself changes -/
theorem ShtD.but {C dx dx' : Addr} {fs fs' : List (Str × V)} (o : ShtD K S H sh rl dl st as rows gap least ts ps av) {cs : List (Addr × Addr)} (x : ExtC cs cu H H') (hc : H cu = some (.ins C dx fs)) (hc' : H' cu = some (.ins C dx' fs')) (n : sh ≠ cu) : ShtD K S H' sh rl dl st as rows gap least ts ps av :=
  o.km x.km1 (ins_mob hc) (ins_mob hc') (fun c us e h => by rw [e, hc] at h; cases h) n (fun z => by have := o.rl_; rw [z, hc] at this; cases this) fun z => by have := o.dl_; rw [z, hc] at this; cases this
end
/-- how far from the left a place is -/
def asideR (rows : List (List Str)) (gap least : Int) (p : Nat × Nat × Nat) : Int := begC rows gap least p.1 (ncl rows p.1) p.2.1 + ((p.2.2 : Nat) : Int)
/-- where so many places on are -/
def besideR (rows : List (List Str)) (p : Nat × Nat × Nat) (by_ : Int) : Option (Nat × Nat × Nat) :=
  let n := (((pageSp rows).idxOf p : Nat) : Int) + by_
  if 0 ≤ n ∧ n < ((pageSp rows).length : Nat) then (pageSp rows)[n.toNat]? else none
def stepR (rows : List (List Str)) (p : Nat × Nat × Nat) (by_ : Int) : Bool × (Nat × Nat × Nat) := match besideR rows p by_ with
  | some q => (true, q)
  | none => (false, p)
theorem eqvAll_int : ∀ a b : List Int, PyData.eqvAll (a.map PyData.int) (b.map PyData.int) = decide (a = b)
  | [], [] => rfl
  | [], _ :: _ => rfl
  | _ :: _, [] => rfl
  | x :: a, y :: b => by
    rw [List.map_cons, List.map_cons]
    simp only [PyData.eqvAll, eqvAll_int a b]
    have e : PyData.eqv (.int x) (.int y) = decide (x = y) := by
      simp only [PyData.eqv]
      rfl
    rw [e]
    by_cases h1 : x = y
    · by_cases h2 : a = b
      · rw [decide_eq_true h1, decide_eq_true h2, decide_eq_true (by rw [h1, h2])]
        rfl
      · rw [decide_eq_true h1, decide_eq_false h2, decide_eq_false (fun z => h2 (by injection z))]
        rfl
    · have h3 : ¬ (x :: a) = (y :: b) := fun z => h1 (by injection z)
      rw [decide_eq_false h1, decide_eq_false h3, Bool.false_and]
/-- a place, as data -/
abbrev d3 (p : Nat × Nat × Nat) : PyData := .tuple [.int (p.1 : Nat), .int (p.2.1 : Nat), .int (p.2.2 : Nat)]
theorem eqv_d3 (p q : Nat × Nat × Nat) : PyData.eqv (d3 p) (d3 q) = decide (p = q) := by
  show PyData.eqv (.tuple ([((p.1 : Nat) : Int), (p.2.1 : Nat), (p.2.2 : Nat)].map PyData.int)) (.tuple ([((q.1 : Nat) : Int), (q.2.1 : Nat), (q.2.2 : Nat)].map PyData.int)) = _
  simp only [PyData.eqv]
  rw [eqvAll_int]
  by_cases h : p = q
  · rw [decide_eq_true h, decide_eq_true (by rw [h])]
  · rw [decide_eq_false h, decide_eq_false]
    intro z
    simp only [List.cons.injEq, and_true] at z
    exact h (Prod.ext (by omega) (Prod.ext (by omega) (by omega)))
theorem shaped_d3 (p : Nat × Nat × Nat) : SeqAt.shaped (d3 p) = true := by simp [SeqAt.shaped, PyData.canLay0, PyData.canLayAll0, PyData.depth, PyData.depthAll]
theorem can_d3s : ∀ l : List (Nat × Nat × Nat), PyData.canLayAll0 (l.map d3) = true
  | [] => rfl
  | p :: l => by
    rw [List.map_cons]
    simp only [PyData.canLayAll0, PyData.canLay0, can_d3s l, Bool.and_self]
theorem dep_d3s : ∀ l : List (Nat × Nat × Nat), PyData.depthAll (l.map d3) ≤ 1
  | [] => Nat.zero_le _
  | p :: l => by
    rw [List.map_cons]
    have := dep_d3s l
    simp only [PyData.depthAll, PyData.depth]
    omega
theorem shaped_d3s (l : List (Nat × Nat × Nat)) : SeqAt.shaped (.list (l.map d3)) = true := by
  unfold SeqAt.shaped
  have := dep_d3s l
  simp only [PyData.canLay0, can_d3s, Bool.true_and, PyData.depth]
  exact decide_eq_true (by omega)
theorem dp_d3 {K : PySem.W.Frag} {H : Hp} {t : Addr} {p : Nat × Nat × Nat} (h : SqT K H t (v3 p)) : Dp K H (.ref t) (d3 p) := .tup h (.cons (.int _) (.cons (.int _) (.cons (.int _) .nil)))
theorem dp_d3s {K : PySem.W.Frag} {H : Hp} : ∀ {ts : List Addr} {l : List (Nat × Nat × Nat)}, ts.length = l.length → (∀ (j : Nat) (t : Addr) (p : Nat × Nat × Nat), ts[j]? = some t → l[j]? = some p → SqT K H t (v3 p)) → DpAll K H (ts.map V.ref) (l.map d3)
  | [], [], _, _ => .nil
  | [], _ :: _, h, _ => by cases h
  | _ :: _, [], h, _ => by cases h
  | t :: ts, p :: l, h, k => .cons (dp_d3 (k 0 t p rfl rfl)) (dp_d3s (by simpa using h) fun j t p h1 h2 => k (j + 1) t p (by simpa using h1) (by simpa using h2))
theorem idx_eq {l : List (Nat × Nat × Nat)} {p : Nat × Nat × Nat} (h : p ∈ l) : l[l.idxOf p]? = some p ∧ l.idxOf p < l.length ∧ ∀ m z, m < l.idxOf p → l[m]? = some z → z ≠ p := by
  have h1 := List.idxOf_lt_length_iff.mpr h
  refine ⟨by rw [List.getElem?_eq_getElem h1, List.getElem_idxOf], h1, fun m z hm hz e => ?_⟩
  subst e
  have hm2 : m < l.length := by omega
  have e2 : l[m] = z := by rw [List.getElem?_eq_getElem hm2] at hz; exact Option.some.inj hz
  have := List.not_of_lt_findIdx (p := (· == z)) (xs := l) (i := m) (by exact hm)
  simp [e2] at this
theorem ncl_of {rows : List (List Str)} {i c k : Nat} (hO : PgOk rows) (h : (i, c, k) ∈ pageSp rows) : i < rows.length ∧ c ≤ ncl rows i := by
  obtain ⟨h1, h2⟩ := mem_pageSp.mp h
  obtain ⟨h3, _⟩ := mem_rowSp.mp h2
  refine ⟨h1, ?_⟩
  simp only at h1 h3
  rw [List.getD_eq_getElem?_getD, List.getElem?_eq_getElem h1] at h3
  unfold ncl
  rw [List.getElem?_eq_getElem h1]
  show c ≤ rows[i].length - 1
  have h3 : c < rows[i].length := h3
  omega
theorem room65 {k : Nat} {A : Around} (r : Room k A) : A.units + 65 < cLine := by have := r.un; omega
theorem tabs_ins {cs : List (Addr × Addr)} {H : Hp} {a : Addr} {C dx : Addr} {fs fs' : List (Str × V)} (t : Tabs cs H) (h : H a = some (.ins C dx fs)) : Tabs cs (upd H a (.ins C dx fs')) := fun p hp => by
  obtain ⟨ps, h1, h2⟩ := t p hp
  exact ⟨ps, by rw [upd_ne fun z => by rw [z, h] at h1; cases h1]; exact h1, h2⟩
/-- the module's FIRST -/
def FirstT (K : PySem.W.Frag) (mg : Str → Option Value) : Prop := ∃ a, mg "FIRST" = some (.ref a) ∧ ∀ H, SqT K H a (v3 (0, 0, 0))
theorem first_mem {rows : List (List Str)} (hO : PgOk rows) : (0, 0, 0) ∈ pageSp rows := by
  refine mem_pageSp.mpr ⟨hO.pos, mem_rowSp.mpr ⟨?_, Nat.zero_le _⟩⟩
  show 0 < (rows.getD 0 []).length
  have h := hO.pos
  rw [List.getD_eq_getElem?_getD, List.getElem?_eq_getElem h]
  exact (hO.rows _ (List.getElem_mem h)).pos
theorem same_extN {H H' : Hp} (x : Same H H') : LamX.ExtN H H' := fun b o h _ => x b o h
theorem dp_tups {K : PySem.W.Frag} {H0 H : Hp} {D : Addr} {l : List (Nat × Nat × Nat)} (o : TupL H0 D (l.map v3) H) : Dp K H (.ref D) (.list (l.map d3)) := by
  obtain ⟨ts, h1, h2, h3⟩ := o.ts
  exact .lst (SqL.of h1) (dp_d3s (by rw [h2, List.length_map]) fun j t p e1 e2 => SqT.of (h3 j t (v3 p) e1 (by rw [List.getElem?_map, e2]; rfl)))
/-- Cursor.beside -/
def PlV (K : PySem.W.Frag) (H : Hp) (v : V) : Option (Nat × Nat × Nat) → Prop
  | none => v = .non
  | some p => ∃ t, v = .ref t ∧ SqT K H t (v3 p)
theorem beside_mem {rows : List (List Str)} {p q : Nat × Nat × Nat} {b : Int} (h : besideR rows p b = some q) : q ∈ pageSp rows := by
  unfold besideR at h
  simp only at h
  split at h
  · exact List.mem_of_getElem? h
  · cases h
end TGK

namespace TGK
open TG
open PySem PySem.Spec PyProof.Rows L2 Gx EnT
section
variable {P : Program} {w : World} {K : PySem.W.Frag} {mg : Str → Option Value} {base : Heap} {cs : List (Addr × Addr)} {U S : Addr}
/-- a cursor as it stands -/
def CurAt (K : PySem.W.Frag) (U S : Addr) (H : Hp) (cu : Addr) (f : Addr → Addr → Addr → Addr → List Addr → List (List Str) → Int → Int → List Addr → List (List (List Str)) → (Addr → Prop) → Nat × Nat × Nat → Prop) : Prop :=
  ∃ (sh rl dl st : Addr) (as : List Addr) (rows : List (List Str)) (gap least : Int) (ts : List Addr) (ps : List (List (List Str))) (av : Addr → Prop) (p : Nat × Nat × Nat), CurD K U S H cu sh rl dl st as rows gap least ts ps av p ∧ f sh rl dl st as rows gap least ts ps av p
/-- Cursor.at -/
def spAt (K : PySem.W.Frag) (U S : Addr) : Sp := fun vs H Q _ => ∃ (cu : Addr), vs = [.ref cu] ∧ CurAt K U S H cu fun _ _ _ _ _ _ _ _ _ _ _ p => ∀ sp, SqT K H sp (v3 p) → Q (.ref sp) H
theorem sc_at : FnScope ["self"] ["self"] (defScope (mth nCursor 1)) := ⟨rfl, rfl, rfl, by decide +kernel, rfl, by decide +kernel, by decide +kernel⟩
theorem ok_at {f : Addr} {fd : FuncData} (X : CuC K U S) (F : Fun K "at" "Cursor.at" (mth nCursor 1) f fd) : FnOk P w K mg base CX0 1 f fd ["self"] (spAt K U S) := by
  refine F.ok sc_at (fun vs H Q E h => ?_) (fun cdv A outer s H vs Q E hr h => ?_)
  · obtain ⟨cu, rfl, _⟩ := h
    rfl
  · obtain ⟨cu, rfl, sh, rl, dl, st, as, rows, gap, least, ts, ps, av, p, hC, k⟩ := h
    refine ⟨_, pss_one (ps_ret (pe_fld (pv 0) rfl)), ?_⟩
    obtain ⟨dx, sp, h1, h2⟩ := hC.cur
    exact ⟨_, rfl, cu, U, dx, _, _, rfl, h1, X.cC, X.nSpot, rfl, k sp h2⟩
/-- Cursor.page -/
def spCuPage (K : PySem.W.Frag) (U S : Addr) : Sp := fun vs H Q _ => ∃ (cu : Addr), vs = [.ref cu] ∧ CurAt K U S H cu fun _ _ _ _ as _ _ _ _ _ _ _ => ∀ r, H r = none → Q (.ref r) (upd H r (.lst (as.map V.ref)))
theorem sc_cupage : FnScope ["self"] ["self"] (defScope (mth nCursor 10)) := ⟨rfl, rfl, rfl, by decide +kernel, rfl, by decide +kernel, by decide +kernel⟩
theorem ok_cupage {f g : Addr} {fd fdg : FuncData} (X : CuC K U S) (F : Fun K "page" "Cursor.page" (mth nCursor 10) f fd)
    (M : Meth K S "page" g) (G : FnOk P w K mg base CX0 1 g fdg ["self"] (spShPage K S)) (bd : Binds K fdg ["self"] []) : FnOk P w K mg base CX0 2 f fd ["self"] (spCuPage K U S) := by
  refine F.ok sc_cupage (fun vs H Q E h => ?_) (fun cdv A outer s H vs Q E hr h => ?_)
  · obtain ⟨cu, rfl, _⟩ := h
    rfl
  · obtain ⟨cu, rfl, sh, rl, dl, st, as, rows, gap, least, ts, ps, av, p, hC, k⟩ := h
    refine ⟨_, pss_one (ps_ret (pe_meth0 (pe_fld (pv 0) rfl) X.sh.cS M G hr bd .nil pass0)), ?_⟩
    obtain ⟨dx, sp, h1, h2⟩ := hC.cur
    obtain ⟨dx2, h3⟩ := hC.sht.she
    exact ⟨_, rfl, cu, U, dx, _, _, rfl, h1, X.cC, X.nSheet, rfl, sh, dx2, _, rfl, h3, rfl, sh, rl, dl, st, as, rows, gap, least, ts, ps, av, rfl, hC.sht, k⟩
/-- Cursor.aside -/
def spAside (K : PySem.W.Frag) (cs : List (Addr × Addr)) (U S : Addr) : Sp := fun vs H Q _ => ∃ (cu : Addr), vs = [.ref cu] ∧ Tabs cs H ∧ CurAt K U S H cu fun _ _ _ _ _ rows gap least _ _ _ p => ∀ H', Ex cs H H' → Q (.int (asideR rows gap least p)) H'
theorem sc_aside : FnScope ["self", "row", "cell", "place"] ["self"] (defScope (mth nCursor 2)) := ⟨rfl, rfl, rfl, by decide +kernel, rfl, by decide +kernel, by decide +kernel⟩
theorem ok_aside {f g : Addr} {fd fdg : FuncData} (X : CuC K U S) (F : Fun K "aside" "Cursor.aside" (mth nCursor 2) f fd)
    (M : Meth K S "begins" g) (G : FnOk P w K mg base CX0 15 g fdg ["self"] (spShBegins K cs S)) (bd : Binds K fdg ["self"] []) : FnOk P w K mg base CX0 16 f fd ["self"] (spAside K cs U S) := by
  refine F.ok sc_aside (fun vs H Q E h => ?_) (fun cdv A outer s H vs Q E hr h => ?_)
  · obtain ⟨cu, rfl, _⟩ := h
    rfl
  · obtain ⟨cu, rfl, hT, sh, rl, dl, st, as, rows, gap, least, ts, ps, av, ⟨i, c, k0⟩, hC, k⟩ := h
    have nd := sc_aside.nd
    refine ⟨_, pss_cons (ps_asg (pe_fld (pv 0) rfl) (pg_tup rfl (pgs_cons (pg_name (i := 1) nd rfl (.inl rfl)) (pgs_cons (pg_name (i := 2) nd rfl (.inl rfl)) (pgs_cons (pg_name (i := 3) nd rfl (.inl rfl)) pgs_nil)))))
      (pss_one (ps_ret (pe_op op_add (pe_ix ix_list (pe_ix ix_list (pe_meth0 (pe_fld (pv 0) rfl) X.sh.cS M G hr bd .nil pass0) (pv 1) (fun _ _ => rfl)) (pv 2) (fun _ _ => rfl)) (pv 3)))), ?_⟩
    obtain ⟨dx, sp, h1, h2⟩ := hC.cur
    obtain ⟨dx2, h3⟩ := hC.sht.she
    obtain ⟨hi, hc⟩ := ncl_of hC.sht.ok hC.mem
    refine ⟨_, rfl, cu, U, dx, _, _, rfl, h1, X.cC, X.nSpot, rfl, sp, _, rfl, h2, rfl, _, _, rfl, _, _, rfl, _, _, rfl, rfl, ?_⟩
    refine ⟨_, rfl, cu, U, dx, _, _, rfl, h1, X.cC, X.nSheet, rfl, sh, dx2, _, rfl, h3, rfl, sh, rl, dl, st, as, rows, gap, least, ts, ps, av, rfl, hT, hC.sht, fun r es H' x nr _ tA => ?_⟩
    obtain ⟨e, he⟩ := getP (xs := es) (i := i) (by rw [tA.len]; exact hi)
    refine ⟨_, rfl, r, _, _, .ref e, rfl, rfl, SqL.of tA.lst, atI_nat (by rw [List.getElem?_map, he]; rfl), _, rfl, e, _, _, .int (begC rows gap least i (ncl rows i) c), rfl, rfl, SqL.of (tA.at_ i e he), atI_nat (by rw [List.getElem?_map, begs_get hc]; rfl), _, rfl, _, _, rfl, rfl, ?_⟩
    exact k _ x
/-- Cursor.beside -/
def spBeside (K : PySem.W.Frag) (U S : Addr) : Sp := fun vs H Q _ => ∃ (cu : Addr) (b : Int), vs = [.ref cu, .int b] ∧ CurAt K U S H cu fun _ _ _ _ _ rows _ _ _ _ _ p => ∀ (v : V) (H' : Hp), Same H H' → PlV K H' v (besideR rows p b) → Q v H'
abbrev nmBes : List Str := ["self", "by", "spots", "number"]
theorem sc_bes : FnScope nmBes ["self", "by"] (defScope (mth nCursor 12)) := ⟨rfl, rfl, rfl, by decide +kernel, rfl, by decide +kernel, by decide +kernel⟩
theorem ok_beside {f g1 g2 : Addr} {fd fd1 fd2 : FuncData} (T : Txt mg) (X : CuC K U S) (F : Fun K "beside" "Cursor.beside" (mth nCursor 12) f fd)
    (M1 : Meth K S "page" g1) (G1 : FnOk P w K mg base CX0 1 g1 fd1 ["self"] (spShPage K S)) (b1 : Binds K fd1 ["self"] [])
    (G2 : FnOk P w K mg base CX0 2 g2 fd2 ["page"] (spPageSp K)) (k2 : PySem.W.keepIn K (.ref g2) = true) (b2 : Binds K fd2 ["page"] []) (m2 : mg "page_spots" = some (.ref g2)) : FnOk P w K mg base CX0 3 f fd ["self", "by"] (spBeside K U S) := by
  refine F.ok sc_bes (fun vs H Q E h => ?_) (fun cdv A outer s H vs Q E hr h => ?_)
  · obtain ⟨cu, b, rfl, _⟩ := h
    rfl
  · obtain ⟨cu, b, rfl, sh, rl, dl, st, as, rows, gap, least, ts0, ps0, av, p, hC, k⟩ := h
    have nd := sc_bes.nd
    have r1 : Room 1 _ := hr.mono (by decide)
    refine ⟨_, pss_cons (ps_set (i := 2) nd rfl (.inl rfl) (pe_call G2 hr (by rfl) m2 k2 b2 .nil pass0 (pa_cons (pe_meth0 (pe_fld (pv 0) rfl) X.sh.cS M1 G1 r1 b1 .nil pass0) pa_nil)))
      (pss_cons (ps_set (i := 3) nd rfl (.inl rfl) (pe_op op_add (pe_bm PySem.F.plainAttrs_list PySem.F.slot_list_index PySem.F.type_list_index (mt_indexD (room65 hr)) (pv 2) (pa_cons (pe_fld (pv 0) rfl) pa_nil)) (pv 1)))
      (pss_cons (ps_if (pt_chain op_le op_lt pe_int (pv 3) (pe_callB call_len_seq (by rfl) T.len PySem.boot_len (pa_cons (pv 2) pa_nil))) (pss_one (ps_ret (pe_ix ix_list (pv 2) (pv 3) (fun _ _ => rfl)))) pss_nil)
      (pss_one (ps_ret pe_non)))), ?_⟩
    obtain ⟨dx, sp, h1, h2⟩ := hC.cur
    obtain ⟨dx2, h3⟩ := hC.sht.she
    have hPg := hC.sht.page
    refine ⟨_, rfl, cu, U, dx, _, _, rfl, h1, X.cC, X.nSheet, rfl, sh, dx2, _, rfl, h3, rfl, sh, rl, dl, st, as, rows, gap, least, ts0, ps0, av, rfl, hC.sht, fun r nr => ?_⟩
    have x1 := same_new (o := .lst (as.map V.ref)) nr
    have hP1 : PageAt K (upd H r (.lst (as.map V.ref))) r as rows := ⟨SqL.of upd_same, hPg.len, fun i q rw_ e1 e2 => same_sqT x1 (hPg.row i q rw_ e1 e2)⟩
    generalize upd H r (.lst (as.map V.ref)) = H1 at x1 hP1 ⊢
    refine ⟨r, as, rows, rfl, hP1, hC.sht.ok, fun D H2 o => ?_⟩
    have x2 : Same H H2 := fun b o' e => o.sm b o' (x1 b o' e)
    obtain ⟨g1', g2', g3'⟩ := idx_eq hC.mem
    have hcu2 := x2 _ _ h1
    obtain ⟨ts, q1, q2, q3⟩ := id o.ts
    refine ⟨_, rfl, .inl ⟨rfl, _, SqL.of q1⟩, _, rfl, cu, U, dx, _, _, rfl, hcu2, X.cC, X.nSpot, rfl, D, _, d3 p, (pageSp rows).map d3, (pageSp rows).idxOf p, d3 p, rfl, rfl, dp_tups o, dp_d3 (same_sqT x2 h2), shaped_d3s _, shaped_d3 p, by rw [List.getElem?_map, g1']; rfl, by rw [eqv_d3, decide_eq_true rfl], fun m z hm hz => ?_, ?_⟩
    · rw [List.getElem?_map] at hz
      cases e : (pageSp rows)[m]? with
      | none => rw [e] at hz; cases hz
      | some q =>
        rw [e] at hz
        cases hz
        rw [eqv_d3, decide_eq_false (g3' m q hm e)]
    refine ⟨_, rfl, _, _, rfl, rfl, ?_⟩
    have lt : (ts.map V.ref).length = (pageSp rows).length := by rw [List.length_map, q2, List.length_map]
    have eb : besideR rows p b = if 0 ≤ (((pageSp rows).idxOf p : Nat) : Int) + b ∧ (((pageSp rows).idxOf p : Nat) : Int) + b < ((pageSp rows).length : Nat) then (pageSp rows)[((((pageSp rows).idxOf p : Nat) : Int) + b).toNat]? else none := rfl
    dsimp only
    generalize (((pageSp rows).idxOf p : Nat) : Int) + b = n at eb ⊢
    refine ⟨_, rfl, 0, n, rfl, rfl, ?_⟩
    by_cases c1 : 0 ≤ n
    · refine ⟨true, dT c1, iteT ⟨_, rfl, D, _, rfl, .inl (SqL.of q1), n, _, rfl, rfl, ?_⟩⟩
      rw [lt]
      by_cases c2 : n < ((pageSp rows).length : Nat)
      · refine ⟨true, dT c2, iteT ?_⟩
        obtain ⟨m, rfl⟩ := Int.eq_ofNat_of_zero_le c1
        have hm : m < (pageSp rows).length := by omega
        rw [if_pos ⟨c1, c2⟩] at eb
        have em : ((m : Nat) : Int).toNat = m := rfl
        rw [em] at eb
        obtain ⟨t, ht⟩ := getP (xs := ts) (i := m) (by rw [q2, List.length_map]; exact hm)
        refine ⟨_, rfl, _, rfl, D, _, _, .ref t, rfl, rfl, SqL.of q1, atI_nat (by rw [List.getElem?_map, ht]; rfl), ?_⟩
        refine k _ _ x2 ?_
        rw [eb, List.getElem?_eq_getElem hm]
        exact ⟨t, rfl, SqT.of (q3 m t _ ht (by rw [List.getElem?_map, List.getElem?_eq_getElem hm]; rfl))⟩
      · refine ⟨false, dF c2, iteF ?_⟩
        rw [if_neg fun z => c2 z.2] at eb
        refine k _ _ x2 ?_
        rw [eb]
        rfl
    · refine ⟨false, dF c1, iteF ?_⟩
      rw [if_neg fun z => c1 z.1] at eb
      refine ⟨_, rfl, iteF (k _ _ x2 ?_)⟩
      rw [eb]
      rfl
/-- Cursor.step; only the cursor itself changes -/
def spStep (K : PySem.W.Frag) (cs : List (Addr × Addr)) (U S : Addr) : Sp := fun vs H Q _ => ∃ (cu : Addr) (b : Int), vs = [.ref cu, .int b] ∧ Tabs cs H ∧ CurAt K U S H cu fun sh rl dl st as rows gap least ts ps av p =>
  ∀ (H' : Hp), ExtC cs cu H H' → Tabs cs H' → (∀ b, H' b = none → H b = none) → CurD K U S H' cu sh rl dl st as rows gap least ts ps av (stepR rows p b).2 → Q (.bl (stepR rows p b).1) H'
theorem sc_step : FnScope ["self", "by", "spot"] ["self", "by"] (defScope (mth nCursor 11)) := ⟨rfl, rfl, rfl, by decide +kernel, rfl, by decide +kernel, by decide +kernel⟩
/-- its spot is set -/
theorem CurD.spot {cu sh rl dl st dx sp t : Addr} {H : Hp} {as : List Addr} {rows : List (List Str)} {gap least : Int} {ts : List Addr} {ps : List (List (List Str))} {av : Addr → Prop} {p q : Nat × Nat × Nat} (hC : CurD K U S H cu sh rl dl st as rows gap least ts ps av p) (h : H cu = some (.ins U dx [("sheet", .ref sh), ("spot", .ref sp)])) (ht : SqT K H t (v3 q)) (hq : q ∈ pageSp rows) (hT : Tabs cs H) :
    ExtC cs cu H (upd H cu (.ins U dx (putF "spot" (.ref t) [("sheet", .ref sh), ("spot", .ref sp)]))) ∧ Tabs cs (upd H cu (.ins U dx (putF "spot" (.ref t) [("sheet", .ref sh), ("spot", .ref sp)]))) ∧ (∀ b, upd H cu (.ins U dx (putF "spot" (.ref t) [("sheet", .ref sh), ("spot", .ref sp)])) b = none → H b = none) ∧ CurD K U S (upd H cu (.ins U dx (putF "spot" (.ref t) [("sheet", .ref sh), ("spot", .ref sp)]))) cu sh rl dl st as rows gap least ts ps av q := by
  have x2 : ExtC cs cu H (upd H cu (.ins U dx (putF "spot" (.ref t) [("sheet", .ref sh), ("spot", .ref sp)]))) := fun b o h _ n => by rw [upd_ne n]; exact h
  refine ⟨x2, tabs_ins hT h, fun b hb => ?_, ⟨dx, t, upd_same, sqT_km x2.km1 (ins_mob h) ht⟩, hC.sht.but x2 h upd_same hC.ncs, hq⟩
  by_cases z : b = cu
  · rw [z, upd_same] at hb; cases hb
  · rw [upd_ne z] at hb; exact hb
theorem ok_step {f g : Addr} {fd fdg : FuncData} (X : CuC K U S) (F : Fun K "step" "Cursor.step" (mth nCursor 11) f fd)
    (M : Meth K U "beside" g) (G : FnOk P w K mg base CX0 3 g fdg ["self", "by"] (spBeside K U S)) (bd : Binds K fdg ["self", "by"] []) : FnOk P w K mg base CX0 4 f fd ["self", "by"] (spStep K cs U S) := by
  refine F.ok sc_step (fun vs H Q E h => ?_) (fun cdv A outer s H vs Q E hr h => ?_)
  · obtain ⟨cu, b, rfl, _⟩ := h
    rfl
  · obtain ⟨cu, b, rfl, hT, sh, rl, dl, st, as, rows, gap, least, ts, ps, av, p, hC, k⟩ := h
    have nd := sc_step.nd
    refine ⟨_, pss_cons (ps_set (i := 2) nd rfl (.inl rfl) (pe_meth (pv 0) X.cC M G hr bd .nil pass0 (pa_cons (pv 1) pa_nil)))
      (pss_cons (ps_if (pt_cmpR op_isN (pv 2) pe_non (nomark _)) (pss_one (ps_ret pe_bl)) pss_nil)
      (pss_cons (ps_fld (pv 0) (pv 2) rfl) (pss_one (ps_ret pe_bl)))), ?_⟩
    obtain ⟨dx, sp, h1, h2⟩ := id hC.cur
    refine ⟨_, rfl, cu, dx, _, rfl, h1, rfl, _, rfl, cu, b, rfl, sh, rl, dl, st, as, rows, gap, least, ts, ps, av, p, hC, fun v H1 x1 hv => ?_⟩
    have hC1 := hC.gw (same_extN x1)
    have t1 : Tabs cs H1 := tabs_ext hT x1
    unfold stepR at k
    cases e : besideR rows p b with
    | none =>
      rw [e] at hv k
      cases hv
      exact ⟨_, rfl, rfl, true, rfl, iteT (k _ (ExtC.of (same_xn x1)) t1 (fun b hb => same_old x1 hb) hC1)⟩
    | some q =>
      rw [e] at hv k
      obtain ⟨t, rfl, ht⟩ := hv
      have h11 := x1 _ _ h1
      refine ⟨_, rfl, rfl, false, rfl, iteF ⟨_, rfl, _, rfl, cu, U, dx, _, rfl, h11, X.cC, X.nSpot, by show 2 < 1000; decide, ?_⟩⟩
      obtain ⟨y1, y2, y3, y4⟩ := hC1.spot h11 ht (beside_mem e) t1
      exact k _ (ExtC.after (same_xn x1) y1) y2 (fun b hb => same_old x1 (y3 b hb)) y4
theorem sc_cleft : FnScope ["self"] ["self"] (defScope (mth nCursor 3)) := ⟨rfl, rfl, rfl, by decide +kernel, rfl, by decide +kernel, by decide +kernel⟩
theorem sc_cright : FnScope ["self"] ["self"] (defScope (mth nCursor 4)) := ⟨rfl, rfl, rfl, by decide +kernel, rfl, by decide +kernel, by decide +kernel⟩
/-- a going of no arguments -/
def spGo (K : PySem.W.Frag) (cs : List (Addr × Addr)) (U S : Addr) (g : List (List Str) → Int → Int → Nat × Nat × Nat → Bool × (Nat × Nat × Nat)) : Sp := fun vs H Q _ => ∃ (cu : Addr), vs = [.ref cu] ∧ Tabs cs H ∧ CurAt K U S H cu fun sh rl dl st as rows gap least ts ps av p =>
  ∀ (H' : Hp), ExtC cs cu H H' → Tabs cs H' → (∀ b, H' b = none → H b = none) → CurD K U S H' cu sh rl dl st as rows gap least ts ps av (g rows gap least p).2 → Q (.bl (g rows gap least p).1) H'
theorem ok_cright {f g : Addr} {fd fdg : FuncData} (X : CuC K U S) (F : Fun K "right" "Cursor.right" (mth nCursor 4) f fd)
    (M : Meth K U "step" g) (G : FnOk P w K mg base CX0 4 g fdg ["self", "by"] (spStep K cs U S)) (bd : Binds K fdg ["self", "by"] []) : FnOk P w K mg base CX0 5 f fd ["self"] (spGo K cs U S fun rows _ _ p => stepR rows p 1) := by
  refine F.ok sc_cright (fun vs H Q E h => ?_) (fun cdv A outer s H vs Q E hr h => ?_)
  · obtain ⟨cu, rfl, _⟩ := h
    rfl
  · obtain ⟨cu, rfl, hT, sh, rl, dl, st, as, rows, gap, least, ts, ps, av, p, hC, k⟩ := h
    refine ⟨_, pss_one (ps_ret (pe_meth (pv 0) X.cC M G hr bd .nil pass0 (pa_cons pe_int pa_nil))), ?_⟩
    obtain ⟨dx, sp, h1, h2⟩ := id hC.cur
    exact ⟨_, rfl, cu, dx, _, rfl, h1, rfl, cu, 1, rfl, hT, sh, rl, dl, st, as, rows, gap, least, ts, ps, av, p, hC, k⟩
/-- Cursor.__init__ -/
def spCuInit (K : PySem.W.Frag) (cs : List (Addr × Addr)) (U S : Addr) : Sp := fun vs H Q _ => ∃ (cu a st dx : Addr) (as : List Addr) (rows : List (List Str)) (gap least : Int), vs = [.ref cu, .ref a, .ref st] ∧ Tabs cs H ∧ H cu = some (.ins U dx []) ∧ PageAt K H a as rows ∧ PgOk rows ∧ StyleAt K H st gap least ∧
  ∀ (sh rl dl : Addr) (H' : Hp), ExtC cs cu H H' → Tabs cs H' → (∀ b, H' b = none → H b = none) → CurD K U S H' cu sh rl dl st as rows gap least [] [] (fun _ => False) (0, 0, 0) → H rl = none → H dl = none → H sh = none → Q .non H'
theorem sc_cuinit : FnScope ["self", "page", "style"] ["self", "page", "style"] (defScope (mth nCursor 0)) := ⟨rfl, rfl, rfl, by decide +kernel, rfl, by decide +kernel, by decide +kernel⟩
theorem ok_cuinit {f g : Addr} {fd fdg : FuncData} (X : CuC K U S) (FT : FirstT K mg) (F : Fun K "__init__" "Cursor.__init__" (mth nCursor 0) f fd)
    (M : Mk K S g) (G : FnOk P w K mg base CX0 12 g fdg ["self", "page", "style"] (spShInit K cs S)) (bd : Binds K fdg ["self", "page", "style"] []) (mS : mg "Sheet" = some (.ref S)) : FnOk P w K mg base CX0 14 f fd ["self", "page", "style"] (spCuInit K cs U S) := by
  obtain ⟨aF, eF, hF⟩ := FT
  refine F.ok sc_cuinit (fun vs H Q E h => ?_) (fun cdv A outer s H vs Q E hr h => ?_)
  · obtain ⟨cu, a, st, dx, as, rows, gap, least, rfl, _⟩ := h
    rfl
  · obtain ⟨cu, a, st, dx, as, rows, gap, least, rfl, hT, hcu, hP, hO, hS, k⟩ := h
    refine ⟨_, pss_cons (ps_fld (pv 0) (pe_make M G hr (by rfl) mS bd .nil pass0 (pa_cons (pv 1) (pa_cons (pv 2) pa_nil))) rfl) (pss_one (ps_fld (pv 0) (pe_glob (v := .ref aF) rfl eF rfl) rfl)), ?_⟩
    refine ⟨_, rfl, _, rfl, fun sh dx2 nsh nd2 ned => ?_⟩
    have e2 : LamX.ExtN H (upd (upd H dx2 (.own sh)) sh (.ins S dx2 [])) := fun b o h _ => by
      rw [upd_ne (ne_of_none h nsh), upd_ne (ne_of_none h nd2)]
      exact h
    have s2 : Same H (upd (upd H dx2 (.own sh)) sh (.ins S dx2 [])) := fun b o h => by
      rw [upd_ne (ne_of_none h nsh), upd_ne (ne_of_none h nd2)]
      exact h
    have t2 : Tabs cs (upd (upd H dx2 (.own sh)) sh (.ins S dx2 [])) := tabs_ext hT s2
    have hcs : cu ≠ sh := ne_of_none hcu nsh
    have old2 : ∀ b, upd (upd H dx2 (.own sh)) sh (.ins S dx2 []) b = none → H b = none := fun b hb => same_old s2 hb
    have P2 : PageAt K (upd (upd H dx2 (.own sh)) sh (.ins S dx2 [])) a as rows := ⟨same_sqL s2 hP.lst, hP.len, fun i q r h1 h2 => same_sqT s2 (hP.row i q r h1 h2)⟩
    refine ⟨sh, a, st, dx2, as, rows, gap, least, rfl, t2, upd_same, P2, hO, hS.gwN e2, fun rl dl H3 x3 t3 old3 hSh nrl ndl => ⟨rfl, ?_⟩⟩
    have hcu3 : H3 cu = some (.ins U dx []) := x3 _ _ (e2 _ _ hcu fun ps z => by cases z) (.inl fun ps z => by cases z) hcs
    refine ⟨_, rfl, cu, U, dx, _, rfl, hcu3, X.cC, X.nSheet, by decide, ?_⟩
    refine ⟨_, rfl, cu, U, dx, _, rfl, upd_same, X.cC, X.nSpot, by show 1 < 1000; decide, ?_⟩
    rw [upd_upd]
    have x4 : ExtC cs cu H3 (upd H3 cu (.ins U dx (putF "spot" (.ref aF) (putF "sheet" (.ref sh) [])))) := fun b o h _ n => by rw [upd_ne n]; exact h
    refine k sh rl dl _ (fun b o h n m => ?_) (tabs_ins t3 hcu3) (fun b hb => ?_) ⟨⟨dx, aF, upd_same, hF _⟩, hSh.but x4 hcu3 upd_same hcs.symm, first_mem hO⟩ ?_ ?_ nsh
    · by_cases z : b = sh
      · rw [z] at h
        rw [h] at nsh
        cases nsh
      · exact x4 b o (x3 b o (s2 b o h) n z) n m
    · refine old2 b (old3 b ?_)
      cases e : H3 b with
      | none => rfl
      | some u =>
        by_cases z : b = cu
        · rw [z, upd_same] at hb; cases hb
        · rw [upd_ne z, e] at hb; cases hb
    · exact old2 rl nrl
    · exact old2 dl ndl
end
end TGK

namespace TGK
open TG
open PySem PySem.Spec PyProof.Rows L2 Gx EnT
theorem joinR_one {a : List Str} {x y : Str} {b : List Str} : joinR (a ++ [x]) (y :: b) = a ++ [x ++ y] ++ b := by
  unfold joinR
  simp
theorem lessR_ne {x : Str} {b : List Str} (h : x ≠ nilS) : lessR (x :: b) = some (zD x 1 :: b) := by
  unfold lessR
  exact if_pos (show (x :: b).headD nilS ≠ nilS from h)
theorem lessR_last : lessR [nilS] = none := by
  unfold lessR
  rw [if_neg (show ¬ ([nilS].headD nilS ≠ nilS) from fun z => z rfl)]
  rfl
theorem lessR_more {x : Str} {b : List Str} : lessR (nilS :: x :: b) = some (x :: b) := by
  unfold lessR
  rw [if_neg (show ¬ ((nilS :: x :: b).headD nilS ≠ nilS) from fun z => z rfl), if_neg (show ¬ (nilS :: x :: b).length = 1 by simp)]
  rfl
theorem zT_all {z : Str} : zT z z.length = z := str_ext (by rw [cl_zT, len_clz, List.take_length])
theorem zD_all {z : Str} {k : Nat} (h : z.length ≤ k) : zD z k = nilS := str_ext (by rw [cl_zD, List.drop_eq_nil_of_le (by rw [← len_clz]; exact h)])
theorem zD_one {z : Str} {k : Nat} : zD (zD z k) 1 = zD z (k + 1) := str_ext (by rw [cl_zD, cl_zD, cl_zD, List.drop_drop])
theorem zD_ne {z : Str} {k : Nat} (h : k < z.length) : zD z k ≠ nilS := fun e => by
  have := congrArg (fun y : Str => (cl y).length) e
  simp only [cl_zD, List.length_drop] at this
  rw [← len_clz] at this
  have h0 : (cl nilS).length = 0 := rfl
  omega
/-- a row's cells behind a sign typed, or erased -/
def cellsR (r : List Str) (c k : Nat) : Option Str → Option (List Str)
  | some z => some (if z = tabS then halvA r c k ++ halvB r c k else joinR (joinR (halvA r c k) [z]) (halvB r c k))
  | none => (lessR (halvB r c k)).map fun b => joinR (halvA r c k) b
theorem cells_tab (r : List Str) (c k : Nat) : cellsR r c k (some tabS) = some (r.take c ++ [zT (r.getD c nilS) k, zD (r.getD c nilS) k] ++ r.drop (c + 1)) := by
  unfold cellsR halvA halvB
  simp
theorem cells_sign {r : List Str} {c k : Nat} {z : Str} (h : z ≠ tabS) : cellsR r c k (some z) = some (r.take c ++ [zT (r.getD c nilS) k ++ z ++ zD (r.getD c nilS) k] ++ r.drop (c + 1)) := by
  unfold cellsR
  simp only
  rw [if_neg h]
  unfold halvA halvB
  rw [joinR_one, List.append_nil, joinR_one]
theorem cells_in {r : List Str} {c k : Nat} (h : k < (r.getD c nilS).length) : cellsR r c k none = some (r.take c ++ [zT (r.getD c nilS) k ++ zD (r.getD c nilS) (k + 1)] ++ r.drop (c + 1)) := by
  have e : lessR (halvB r c k) = some (zD (r.getD c nilS) (k + 1) :: r.drop (c + 1)) := by
    unfold halvB
    rw [lessR_ne (zD_ne h), zD_one]
  unfold cellsR
  simp only
  rw [e, Option.map_some]
  unfold halvA
  rw [joinR_one]
theorem cells_join {r : List Str} {c k : Nat} (hk : k = (r.getD c nilS).length) (hc : c + 1 < r.length) : cellsR r c k none = some (r.take c ++ [r.getD c nilS ++ r.getD (c + 1) nilS] ++ r.drop (c + 2)) := by
  have e : lessR (halvB r c k) = some (r.drop (c + 1)) := by
    unfold halvB
    rw [zD_all (Nat.le_of_eq hk.symm), List.drop_eq_getElem_cons hc]
    exact lessR_more
  unfold cellsR
  simp only
  rw [e, Option.map_some]
  have e2 : r.drop (c + 1) = r.getD (c + 1) nilS :: r.drop (c + 2) := by
    rw [List.drop_eq_getElem_cons hc, List.getD_eq_getElem?_getD, List.getElem?_eq_getElem hc]
    rfl
  rw [e2]
  unfold halvA
  rw [joinR_one, hk, zT_all]
/-! ### places, by their numbers -/
theorem rowTo_len {r : List Str} {c : Nat} : (rowTo r (c + 1)).length = (rowTo r c).length + (r.getD c nilS).length + 1 := by
  rw [rowTo_succ, List.length_append, List.length_map, List.length_range]
  omega
theorem rowTo_get {r : List Str} {m i : Nat} (h : i < (rowTo r m).length) : ∀ {n : Nat}, m ≤ n → (rowTo r n)[i]? = (rowTo r m)[i]?
  | 0, hn => by rw [show m = 0 by omega]
  | n + 1, hn => by
    by_cases q : m = n + 1
    · rw [q]
    · have ih := rowTo_get h (n := n) (by omega)
      rw [rowTo_succ, List.getElem?_append_left]
      · exact ih
      · rw [List.getElem?_eq_getElem h] at ih
        exact (List.getElem?_eq_some_iff.mp ih).1
theorem row_at {r : List Str} {c k : Nat} (hc : c < r.length) (hk : k ≤ (r.getD c nilS).length) : (rowSp r)[(rowTo r c).length + k]? = some (c, k) := by
  have e : rowSp r = rowTo r r.length := rfl
  have l := rowTo_len (r := r) (c := c)
  rw [e, rowTo_get (m := c + 1) (by omega) (by omega), rowTo_succ, List.getElem?_append_right (by omega), Nat.add_sub_cancel_left, List.getElem?_map, List.getElem?_range (by omega)]
  rfl
theorem pageTo_len {rows : List (List Str)} {n : Nat} : (pageTo rows (n + 1)).length = (pageTo rows n).length + (rowSp (rows.getD n [])).length := by
  rw [pageTo_succ, List.length_append, List.length_map]
theorem pageTo_get {rows : List (List Str)} {m i : Nat} (h : i < (pageTo rows m).length) : ∀ {n : Nat}, m ≤ n → (pageTo rows n)[i]? = (pageTo rows m)[i]?
  | 0, hn => by rw [show m = 0 by omega]
  | n + 1, hn => by
    by_cases q : m = n + 1
    · rw [q]
    · have ih := pageTo_get h (n := n) (by omega)
      rw [pageTo_succ, List.getElem?_append_left]
      · exact ih
      · rw [List.getElem?_eq_getElem h] at ih
        exact (List.getElem?_eq_some_iff.mp ih).1
def idxP (rows : List (List Str)) (n c k : Nat) : Nat := (pageTo rows n).length + ((rowTo (rows.getD n []) c).length + k)
theorem page_at {rows : List (List Str)} {n c k : Nat} (hn : n < rows.length) (hc : c < (rows.getD n []).length) (hk : k ≤ ((rows.getD n []).getD c nilS).length) : (pageSp rows)[idxP rows n c k]? = some (n, c, k) := by
  have e : pageSp rows = pageTo rows rows.length := rfl
  have h := row_at hc hk
  have l := pageTo_len (rows := rows) (n := n)
  have hl := (List.getElem?_eq_some_iff.mp h).1
  unfold idxP
  rw [e, pageTo_get (m := n + 1) (by omega) (by omega), pageTo_succ, List.getElem?_append_right (by omega), Nat.add_sub_cancel_left, List.getElem?_map, h]
  rfl
theorem idx_of {l : List (Nat × Nat × Nat)} {p : Nat × Nat × Nat} {i : Nat} (nd : l.Nodup) (h : l[i]? = some p) : l.idxOf p = i := by
  obtain ⟨h1, h2, h3⟩ := idx_eq (List.mem_of_getElem? h)
  obtain ⟨hi, e1⟩ := List.getElem?_eq_some_iff.mp h
  obtain ⟨hj, e2⟩ := List.getElem?_eq_some_iff.mp h1
  have np := List.pairwise_iff_getElem.mp nd
  rcases Nat.lt_trichotomy (l.idxOf p) i with q | q | q
  · exact absurd (e2.trans e1.symm) (np _ _ hj hi q)
  · exact q
  · exact absurd rfl (h3 i p q h)
theorem beside_on {rows : List (List Str)} {p q : Nat × Nat × Nat} {i : Nat} (hp : (pageSp rows)[i]? = some p) (hq : (pageSp rows)[i + 1]? = some q) : besideR rows p 1 = some q ∧ besideR rows q (-1) = some p := by
  have nd := pageSp_nd rows
  have hl := (List.getElem?_eq_some_iff.mp hq).1
  unfold besideR
  rw [idx_of nd hp, idx_of nd hq]
  constructor
  · simp only
    rw [if_pos ⟨by omega, by omega⟩, show (((i : Nat) : Int) + 1).toNat = i + 1 by omega, hq]
  · simp only
    rw [if_pos ⟨by omega, by omega⟩, show (((i + 1 : Nat) : Int) + -1).toNat = i by omega, hp]
/-! ### what a sign typed makes of a page, and rubbing it -/
abbrev lineS : Str := "\n"
def doneR (rows : List (List Str)) (d : Deed) : Option (List (List Str)) := (cutD rows d).bind fun q => if fitsR ((rows.length : Nat) - (q.2.1 : Nat) + (q.2.2.length : Nat)) q.2.2 = true then some (splice rows q.1 q.2.1 q.2.2) else none
theorem gone_done {rows : List (List Str)} {gap least : Int} {d : Deed} : doneR rows d = (goneD rows gap least d).map Prod.fst := by
  unfold doneR goneD
  cases cutD rows d with
  | none => rfl
  | some q =>
    rw [Option.bind_some, Option.bind_some]
    split <;> rfl
theorem done_cut {rows rows' : List (List Str)} {d : Deed} (h : doneR rows d = some rows') : ∃ n m new, cutD rows d = some (n, m, new) ∧ fitsR ((rows.length : Nat) - (m : Nat) + (new.length : Nat)) new = true ∧ rows' = splice rows n m new := by
  unfold doneR at h
  cases e : cutD rows d with
  | none => rw [e] at h; cases h
  | some p =>
    obtain ⟨n, m, new⟩ := p
    rw [e, Option.bind_some] at h
    dsimp only at h
    by_cases f : fitsR ((rows.length : Nat) - (m : Nat) + (new.length : Nat)) new = true
    · rw [if_pos f] at h
      cases h
      exact ⟨n, m, new, rfl, f, rfl⟩
    · rw [if_neg f] at h
      cases h
theorem done_of {rows : List (List Str)} {d : Deed} {n m : Nat} {new : List (List Str)} (h : cutD rows d = some (n, m, new)) (f : fitsR ((rows.length : Nat) - (m : Nat) + (new.length : Nat)) new = true) : doneR rows d = some (splice rows n m new) := by
  unfold doneR
  rw [h, Option.bind_some]
  exact if_pos f
def SignOk (z : Str) : Prop := z = lineS ∨ z = tabS ∨ (Sgs z 1 ∧ z ≠ nilS)
def pressD (p : Nat × Nat × Nat) (z : Str) : Deed := if z = lineS then .part p.1 p.2.1 p.2.2 else .strike p.1 p.2.1 p.2.2 z
def nextP (p : Nat × Nat × Nat) (z : Str) : Nat × Nat × Nat := if z = lineS then (p.1 + 1, 0, 0) else if z = tabS then (p.1, p.2.1 + 1, 0) else (p.1, p.2.1, p.2.2 + 1)
def rubD (p q : Nat × Nat × Nat) : Deed := if q.1 < p.1 then .unite q.1 else .erase q.1 q.2.1 q.2.2
theorem splice_at {α : Type} {xs new : List α} {n m j : Nat} (h : n ≤ xs.length) (hj : j < new.length) : (splice xs n m new)[n + j]? = new[j]? := by
  unfold splice
  rw [List.append_assoc, List.getElem?_append_right (by rw [List.length_take]; omega), List.length_take, show n + j - min n xs.length = j by omega, List.getElem?_append_left hj]
theorem splice_one {α : Type} {xs : List α} {n : Nat} {a b : α} {h : n < xs.length} (e : xs[n]? = some b) : splice (splice xs n 1 [a]) n 1 [b] = xs := by
  have k := splice_back (xs := xs) (new := [a]) (n := n) (m := 1) (by omega)
  have e2 : (xs.drop n).take 1 = [b] := by
    rw [List.drop_eq_getElem_cons h, List.take_succ_cons, List.take_zero]
    rw [List.getElem?_eq_getElem h] at e
    rw [Option.some.inj e]
  rw [e2] at k
  exact k
theorem splice_two {α : Type} {xs : List α} {n : Nat} {a c b : α} {h : n < xs.length} (e : xs[n]? = some b) : splice (splice xs n 1 [a, c]) n 2 [b] = xs := by
  have k := splice_back (xs := xs) (new := [a, c]) (n := n) (m := 1) (by omega)
  have e2 : (xs.drop n).take 1 = [b] := by
    rw [List.drop_eq_getElem_cons h, List.take_succ_cons, List.take_zero]
    rw [List.getElem?_eq_getElem h] at e
    rw [Option.some.inj e]
  rw [e2] at k
  exact k
theorem cell_mid {a b : List Str} {x : Str} {c : Nat} (h : a.length = c) : (a ++ [x] ++ b).getD c nilS = x := by
  rw [List.getD_eq_getElem?_getD, List.append_assoc, List.getElem?_append_right (by omega), show c - a.length = 0 by omega]
  rfl
theorem row_set {r : List Str} {c : Nat} (h : c < r.length) : r.take c ++ [r.getD c nilS] ++ r.drop (c + 1) = r := by
  have e : r.getD c nilS = r[c] := by rw [List.getD_eq_getElem?_getD, List.getElem?_eq_getElem h]; rfl
  rw [e, List.append_assoc]
  show List.take c r ++ r[c] :: List.drop (c + 1) r = r
  rw [← List.drop_eq_getElem_cons h]
  exact List.take_append_drop c r
theorem zTD {z : Str} {k : Nat} : zT z k ++ zD z k = z := str_ext (by rw [cl_app, cl_zT, cl_zD, List.take_append_drop])
theorem getD_of {α : Type} {xs : List α} {i : Nat} {x d : α} (h : xs[i]? = some x) : xs.getD i d = x := by rw [List.getD_eq_getElem?_getD, h]; rfl
theorem pl_of {rows : List (List Str)} {n c k : Nat} (h : (n, c, k) ∈ pageSp rows) : PlOk rows n c k := by
  obtain ⟨h1, h2⟩ := mem_pageSp.mp h
  obtain ⟨h3, h4⟩ := mem_rowSp.mp h2
  exact ⟨h1, h3, h4⟩
theorem fits_row {rows : List (List Str)} {m q : Nat} {r : List Str} (hO : PgOk rows) (hr : RowOk r) (h : (q : Int) - (m : Nat) + 1 = (rows.length : Nat)) : fitsR ((q : Nat) - (m : Nat) + ([r].length : Nat)) [r] = true := by
  have h1 := hO.pos
  have h2 := hO.len
  unfold fitsR
  have e : List.all [r] fitR = true := by
    rw [List.all_cons, List.all_nil, Bool.and_true]
    exact hr.loose.fit.mpr hr
  rw [e, Bool.and_true]
  have l : ((([r] : List (List Str)).length : Nat) : Int) = 1 := rfl
  rw [l]
  exact decide_eq_true ⟨by omega, by omega⟩
/-- the place behind a sign typed is the next one -/
theorem press_next {rows rows' : List (List Str)} {p : Nat × Nat × Nat} {z : Str} (hp : p ∈ pageSp rows) (hz : SignOk z) (h : doneR rows (pressD p z) = some rows') : ∃ i, (pageSp rows')[i]? = some p ∧ (pageSp rows')[i + 1]? = some (nextP p z) := by
  obtain ⟨n, c, k⟩ := p
  obtain ⟨p1, p2, p3⟩ := pl_of hp
  have lt : (List.take c (rowN rows n)).length = c := by rw [List.length_take]; omega
  unfold pressD at h
  unfold nextP
  dsimp only at h ⊢
  by_cases z1 : z = lineS
  · rw [if_pos z1] at h ⊢
    obtain ⟨n', m, new, hc, hf, rfl⟩ := done_cut h
    have hc : some (n, 1, [halvA (rowN rows n) c k, halvB (rowN rows n) c k]) = some (n', m, new) := hc
    cases hc
    have sl := splice_len (xs := rows) (new := [halvA (rowN rows n) c k, halvB (rowN rows n) c k]) (n := n) (m := 1) (by omega)
    have g0 := splice_at (xs := rows) (new := [halvA (rowN rows n) c k, halvB (rowN rows n) c k]) (n := n) (m := 1) (j := 0) (by omega) (by simp)
    have g1 := splice_at (xs := rows) (new := [halvA (rowN rows n) c k, halvB (rowN rows n) c k]) (n := n) (m := 1) (j := 1) (by omega) (by simp)
    generalize splice rows n 1 [halvA (rowN rows n) c k, halvB (rowN rows n) c k] = rows' at sl g0 g1 ⊢
    have sl2 : rows'.length = rows.length - 1 + 2 := sl
    have e0 : rows'.getD n [] = halvA (rowN rows n) c k := getD_of g0
    have e1 : rows'.getD (n + 1) [] = halvB (rowN rows n) c k := getD_of g1
    have la : (halvA (rowN rows n) c k).length = c + 1 := by unfold halvA; rw [List.length_append, lt]; rfl
    have ca : (halvA (rowN rows n) c k).getD c nilS = zT ((rowN rows n).getD c nilS) k := by
      have := cell_mid (a := List.take c (rowN rows n)) (x := zT ((rowN rows n).getD c nilS) k) (b := []) lt
      rw [List.append_nil] at this
      exact this
    have ck : (zT ((rowN rows n).getD c nilS) k).length = k := by rw [len_zT]; omega
    refine ⟨idxP rows' n c k, page_at (by omega) (by rw [e0, la]; omega) (by rw [e0, ca, ck]; exact Nat.le_refl _), ?_⟩
    have hh := page_at (rows := rows') (n := n + 1) (c := 0) (k := 0) (by omega) (by rw [e1]; unfold halvB; exact Nat.succ_pos _) (Nat.zero_le _)
    have ei : idxP rows' (n + 1) 0 0 = idxP rows' n c k + 1 := by
      unfold idxP
      rw [pageTo_len, e0, e1]
      have es : rowSp (halvA (rowN rows n) c k) = rowTo (halvA (rowN rows n) c k) (c + 1) := by rw [← la]; rfl
      rw [es, rowTo_len, ca, ck]
      have : (rowTo (halvB (rowN rows n) c k) 0).length = 0 := rfl
      omega
    rw [ei] at hh
    exact hh
  · rw [if_neg z1] at h ⊢
    obtain ⟨n', m, new, hc, hf, rfl⟩ := done_cut h
    have hc : some (n, 1, [if z = tabS then halvA (rowN rows n) c k ++ halvB (rowN rows n) c k else joinR (joinR (halvA (rowN rows n) c k) [z]) (halvB (rowN rows n) c k)]) = some (n', m, new) := hc
    cases hc
    have hcell : cellsR (rowN rows n) c k (some z) = some (if z = tabS then halvA (rowN rows n) c k ++ halvB (rowN rows n) c k else joinR (joinR (halvA (rowN rows n) c k) [z]) (halvB (rowN rows n) c k)) := rfl
    generalize (if z = tabS then halvA (rowN rows n) c k ++ halvB (rowN rows n) c k else joinR (joinR (halvA (rowN rows n) c k) [z]) (halvB (rowN rows n) c k)) = r' at hcell hf ⊢
    have sl := splice_len (xs := rows) (new := [r']) (n := n) (m := 1) (by omega)
    have g0 := splice_at (xs := rows) (new := [r']) (n := n) (m := 1) (j := 0) (by omega) (by simp)
    generalize splice rows n 1 [r'] = rows' at sl g0 ⊢
    have sl2 : rows'.length = rows.length - 1 + 1 := sl
    have e0 : rows'.getD n [] = r' := getD_of g0
    by_cases z2 : z = tabS
    · rw [if_pos z2]
      rw [z2, cells_tab] at hcell
      have er := (Option.some.inj hcell).symm
      have ck : (zT ((rowN rows n).getD c nilS) k).length = k := by rw [len_zT]; omega
      have l' : r'.length = c + 2 + ((rowN rows n).length - (c + 1)) := by rw [er, List.length_append, List.length_append, lt, List.length_drop]; rfl
      have ca : r'.getD c nilS = zT ((rowN rows n).getD c nilS) k := by
        have := cell_mid (a := List.take c (rowN rows n)) (x := zT ((rowN rows n).getD c nilS) k) (b := zD ((rowN rows n).getD c nilS) k :: List.drop (c + 1) (rowN rows n)) lt
        rw [er]
        simpa using this
      refine ⟨idxP rows' n c k, page_at (by omega) (by rw [e0]; omega) (by rw [e0, ca, ck]; exact Nat.le_refl _), ?_⟩
      have hh := page_at (rows := rows') (n := n) (c := c + 1) (k := 0) (by omega) (by rw [e0]; omega) (Nat.zero_le _)
      have ei : idxP rows' n (c + 1) 0 = idxP rows' n c k + 1 := by
        unfold idxP
        rw [e0, rowTo_len, ca, ck]
        omega
      rw [ei] at hh
      exact hh
    · rw [if_neg z2]
      rw [cells_sign z2] at hcell
      have er := (Option.some.inj hcell).symm
      have hz1 : Sgs z 1 ∧ z ≠ nilS := by
        rcases hz with q | q | q
        · exact absurd q z1
        · exact absurd q z2
        · exact q
      have lz : z.length = 1 := by
        have h1 := hz1.1.len
        rcases Nat.eq_zero_or_pos z.length with q | q
        · refine absurd (str_ext ?_) hz1.2
          rw [len_clz] at q
          exact List.eq_nil_of_length_eq_zero q
        · omega
      have l' : r'.length = c + 1 + ((rowN rows n).length - (c + 1)) := by rw [er, List.length_append, List.length_append, lt, List.length_drop]; rfl
      have ca : r'.getD c nilS = zT ((rowN rows n).getD c nilS) k ++ z ++ zD ((rowN rows n).getD c nilS) k := by
        rw [er]
        exact cell_mid lt
      have lc : (r'.getD c nilS).length = ((rowN rows n).getD c nilS).length + 1 := by
        rw [ca, len_zz, len_zz, len_zT, len_zD, lz]
        omega
      refine ⟨idxP rows' n c k, page_at (by omega) (by rw [e0]; omega) (by rw [e0, lc]; omega), ?_⟩
      exact page_at (rows := rows') (n := n) (c := c) (k := k + 1) (by omega) (by rw [e0]; omega) (by rw [e0, lc]; omega)
/-- rubbed, it is as ahead -/
theorem rub_press {rows rows' : List (List Str)} {p : Nat × Nat × Nat} {z : Str} (hO : PgOk rows) (hp : p ∈ pageSp rows) (hz : SignOk z) (h : doneR rows (pressD p z) = some rows') : doneR rows' (rubD (nextP p z) p) = some rows := by
  obtain ⟨n, c, k⟩ := p
  obtain ⟨p1, p2, p3⟩ := pl_of hp
  have hR := rowN_ok hO p1
  have hg := rowN_get p1
  have lt : (List.take c (rowN rows n)).length = c := by rw [List.length_take]; omega
  unfold pressD at h
  unfold nextP rubD
  dsimp only at h ⊢
  by_cases z1 : z = lineS
  · rw [if_pos z1] at h ⊢
    dsimp only
    rw [if_pos (Nat.lt_succ_self n)]
    obtain ⟨n', m, new, hc, hf, rfl⟩ := done_cut h
    have hc : some (n, 1, [halvA (rowN rows n) c k, halvB (rowN rows n) c k]) = some (n', m, new) := hc
    cases hc
    have sl := splice_len (xs := rows) (new := [halvA (rowN rows n) c k, halvB (rowN rows n) c k]) (n := n) (m := 1) (by omega)
    have g0 := splice_at (xs := rows) (new := [halvA (rowN rows n) c k, halvB (rowN rows n) c k]) (n := n) (m := 1) (j := 0) (by omega) (by simp)
    have g1 := splice_at (xs := rows) (new := [halvA (rowN rows n) c k, halvB (rowN rows n) c k]) (n := n) (m := 1) (j := 1) (by omega) (by simp)
    have e0 : rowN (splice rows n 1 [halvA (rowN rows n) c k, halvB (rowN rows n) c k]) n = halvA (rowN rows n) c k := getD_of g0
    have e1 : rowN (splice rows n 1 [halvA (rowN rows n) c k, halvB (rowN rows n) c k]) (n + 1) = halvB (rowN rows n) c k := getD_of g1
    have sl2 : (splice rows n 1 [halvA (rowN rows n) c k, halvB (rowN rows n) c k]).length = rows.length - 1 + 2 := sl
    have ej : joinR (halvA (rowN rows n) c k) (halvB (rowN rows n) c k) = rowN rows n := by
      unfold halvA halvB
      rw [joinR_one, zTD]
      exact row_set p2
    have ec : cutD (splice rows n 1 [halvA (rowN rows n) c k, halvB (rowN rows n) c k]) (.unite n) = some (n, 2, [rowN rows n]) := by
      show (if n + 1 < (splice rows n 1 [halvA (rowN rows n) c k, halvB (rowN rows n) c k]).length then _ else _) = _
      rw [if_pos (by omega), e0, e1, ej]
    rw [done_of ec (fits_row hO hR (by omega)), splice_two (h := p1) hg]
  · rw [if_neg z1] at h ⊢
    have en : ∀ q : Nat × Nat × Nat, (if z = tabS then (n, c + 1, 0) else (n, c, k + 1)).1 = n := fun _ => by split <;> rfl
    rw [en (0, 0, 0), if_neg (Nat.lt_irrefl n)]
    obtain ⟨n', m, new, hc, hf, rfl⟩ := done_cut h
    have hc : some (n, 1, [if z = tabS then halvA (rowN rows n) c k ++ halvB (rowN rows n) c k else joinR (joinR (halvA (rowN rows n) c k) [z]) (halvB (rowN rows n) c k)]) = some (n', m, new) := hc
    cases hc
    have hcell : cellsR (rowN rows n) c k (some z) = some (if z = tabS then halvA (rowN rows n) c k ++ halvB (rowN rows n) c k else joinR (joinR (halvA (rowN rows n) c k) [z]) (halvB (rowN rows n) c k)) := rfl
    generalize (if z = tabS then halvA (rowN rows n) c k ++ halvB (rowN rows n) c k else joinR (joinR (halvA (rowN rows n) c k) [z]) (halvB (rowN rows n) c k)) = r' at hcell hf ⊢
    have sl := splice_len (xs := rows) (new := [r']) (n := n) (m := 1) (by omega)
    have g0 := splice_at (xs := rows) (new := [r']) (n := n) (m := 1) (j := 0) (by omega) (by simp)
    have e0 : rowN (splice rows n 1 [r']) n = r' := getD_of g0
    have sl2 : (splice rows n 1 [r']).length = rows.length - 1 + 1 := sl
    have key : cellsR r' c k none = some (rowN rows n) := by
      by_cases z2 : z = tabS
      · rw [z2, cells_tab] at hcell
        have er := (Option.some.inj hcell).symm
        have ck : (zT ((rowN rows n).getD c nilS) k).length = k := by rw [len_zT]; omega
        have l' : r'.length = c + 2 + ((rowN rows n).length - (c + 1)) := by rw [er, List.length_append, List.length_append, lt, List.length_drop]; rfl
        have ca : r'.getD c nilS = zT ((rowN rows n).getD c nilS) k := by
          have := cell_mid (a := List.take c (rowN rows n)) (x := zT ((rowN rows n).getD c nilS) k) (b := zD ((rowN rows n).getD c nilS) k :: List.drop (c + 1) (rowN rows n)) lt
          rw [er]
          simpa using this
        have cb : r'.getD (c + 1) nilS = zD ((rowN rows n).getD c nilS) k := by
          have := cell_mid (a := List.take c (rowN rows n) ++ [zT ((rowN rows n).getD c nilS) k]) (x := zD ((rowN rows n).getD c nilS) k) (b := List.drop (c + 1) (rowN rows n)) (c := c + 1) (by rw [List.length_append, lt]; rfl)
          rw [er]
          simpa using this
        have t1 : r'.take c = (rowN rows n).take c := by
          rw [er, List.append_assoc, List.take_append_of_le_length (by omega), List.take_of_length_le (by omega)]
        have t2 : r'.drop (c + 2) = (rowN rows n).drop (c + 1) := by
          rw [er, List.drop_append_of_le_length (by rw [List.length_append, lt]; exact Nat.le_refl _), List.drop_eq_nil_of_le (by rw [List.length_append, lt]; exact Nat.le_refl _), List.nil_append]
        rw [cells_join (by rw [ca, ck]) (by omega), ca, cb, zTD, t1, t2]
        exact congrArg some (row_set p2)
      · rw [cells_sign z2] at hcell
        have er := (Option.some.inj hcell).symm
        have hz1 : Sgs z 1 ∧ z ≠ nilS := by
          rcases hz with q | q | q
          · exact absurd q z1
          · exact absurd q z2
          · exact q
        have lz : z.length = 1 := by
          have h1 := hz1.1.len
          rcases Nat.eq_zero_or_pos z.length with q | q
          · refine absurd (str_ext ?_) hz1.2
            rw [len_clz] at q
            exact List.eq_nil_of_length_eq_zero q
          · omega
        have ca : r'.getD c nilS = zT ((rowN rows n).getD c nilS) k ++ z ++ zD ((rowN rows n).getD c nilS) k := by
          rw [er]
          exact cell_mid lt
        have lc : (r'.getD c nilS).length = ((rowN rows n).getD c nilS).length + 1 := by
          rw [ca, len_zz, len_zz, len_zT, len_zD, lz]
          omega
        have t1 : r'.take c = (rowN rows n).take c := by
          rw [er, List.append_assoc, List.take_append_of_le_length (by omega), List.take_of_length_le (by omega)]
        have t2 : r'.drop (c + 1) = (rowN rows n).drop (c + 1) := by
          rw [er, List.drop_append_of_le_length (by rw [List.length_append, lt]; exact Nat.le_refl _), List.drop_eq_nil_of_le (by rw [List.length_append, lt]; exact Nat.le_refl _), List.nil_append]
        have lzc : (cl z).length = 1 := by rw [← len_clz]; exact lz
        have lk : (cl (zT ((rowN rows n).getD c nilS) k)).length = k := by rw [← len_clz, len_zT]; omega
        have x1 : zT (zT ((rowN rows n).getD c nilS) k ++ z ++ zD ((rowN rows n).getD c nilS) k) k = zT ((rowN rows n).getD c nilS) k := str_ext (by
          rw [cl_zT, cl_app, cl_app, List.append_assoc, List.take_append_of_le_length (by omega), List.take_of_length_le (by omega)])
        have x2 : zD (zT ((rowN rows n).getD c nilS) k ++ z ++ zD ((rowN rows n).getD c nilS) k) (k + 1) = zD ((rowN rows n).getD c nilS) k := str_ext (by
          rw [cl_zD, cl_app, cl_app, List.drop_append_of_le_length (by rw [List.length_append]; omega), List.drop_eq_nil_of_le (by rw [List.length_append]; omega), List.nil_append])
        rw [cells_in (by rw [lc]; omega), ca, x1, x2, zTD, t1, t2]
        exact congrArg some (row_set p2)
    have ec : cutD (splice rows n 1 [r']) (.erase n c k) = some (n, 1, [rowN rows n]) := by
      show (lessR (halvB (rowN (splice rows n 1 [r']) n) c k)).map _ = _
      rw [e0]
      have key2 : (lessR (halvB r' c k)).map (fun b => joinR (halvA r' c k) b) = some (rowN rows n) := key
      cases e : lessR (halvB r' c k) with
      | none => rw [e] at key2; cases key2
      | some b =>
        rw [e] at key2
        rw [Option.map_some] at key2 ⊢
        rw [Option.some.inj key2]
    rw [done_of ec (fits_row hO hR (by omega)), splice_one (h := p1) hg]
end TGK

namespace TGK
open TG
open PySem PySem.Spec PyProof.Rows L2 Gx EnT
/-! ### what is rubbed -/
theorem join_pl {a b : List Str} {c k : Nat} (hc : c < a.length) (hk : k ≤ (a.getD c nilS).length) : c < (joinR a b).length ∧ k ≤ ((joinR a b).getD c nilS).length := by
  rcases List.eq_nil_or_concat a with e | ⟨d, x, e⟩
  · rw [e] at hc; cases hc
  · rw [List.concat_eq_append] at e
    subst e
    have ej : joinR (d ++ [x]) b = d ++ (x ++ b.headD nilS) :: b.tail := by unfold joinR; simp
    rw [List.length_append, List.length_singleton] at hc
    rw [ej]
    refine ⟨by rw [List.length_append, List.length_cons]; omega, ?_⟩
    by_cases h : c < d.length
    · rw [List.getD_eq_getElem?_getD, List.getElem?_append_left h] at hk ⊢
      exact hk
    · have ec : c = d.length := by omega
      subst ec
      rw [List.getD_eq_getElem?_getD, List.getElem?_append_right (Nat.le_refl _), Nat.sub_self] at hk ⊢
      have hk : k ≤ x.length := hk
      show k ≤ (x ++ b.headD nilS).length
      rw [len_zz]
      omega
theorem mem_of_row {rows : List (List Str)} {n c k : Nat} {r : List Str} (h : rows[n]? = some r) (hc : c < r.length) (hk : k ≤ (r.getD c nilS).length) : (n, c, k) ∈ pageSp rows := by
  refine mem_pageSp.mpr ⟨(List.getElem?_eq_some_iff.mp h).1, ?_⟩
  show (c, k) ∈ rowSp (rows.getD n [])
  rw [getD_of h]
  exact mem_rowSp.mpr ⟨hc, hk⟩
theorem rub_mem {rows rows' : List (List Str)} {p q : Nat × Nat × Nat} (hq : q ∈ pageSp rows) (h : doneR rows (rubD p q) = some rows') : q ∈ pageSp rows' := by
  obtain ⟨n, c, k⟩ := q
  obtain ⟨p1, p2, p3⟩ := pl_of hq
  unfold rubD at h
  dsimp only at h
  by_cases z : n < p.1
  · rw [if_pos z] at h
    obtain ⟨n', m, new, hc, hf, rfl⟩ := done_cut h
    have hc : (if n + 1 < rows.length then some (n, 2, [joinR (rowN rows n) (rowN rows (n + 1))]) else none) = some (n', m, new) := hc
    by_cases z2 : n + 1 < rows.length
    · rw [if_pos z2] at hc
      cases hc
      obtain ⟨j1, j2⟩ := join_pl (b := rowN rows (n + 1)) p2 p3
      exact mem_of_row (splice_at (j := 0) (by omega) (by simp)) j1 j2
    · rw [if_neg z2] at hc
      cases hc
  · rw [if_neg z] at h
    obtain ⟨n', m, new, hc, hf, rfl⟩ := done_cut h
    have hc : (lessR (halvB (rowN rows n) c k)).map (fun b => (n, 1, [joinR (halvA (rowN rows n) c k) b])) = some (n', m, new) := hc
    cases e : lessR (halvB (rowN rows n) c k) with
    | none => rw [e] at hc; cases hc
    | some b =>
      rw [e, Option.map_some] at hc
      cases hc
      have lt : (List.take c (rowN rows n)).length = c := by rw [List.length_take]; omega
      have ca : (halvA (rowN rows n) c k).getD c nilS = zT ((rowN rows n).getD c nilS) k := by
        have := cell_mid (a := List.take c (rowN rows n)) (x := zT ((rowN rows n).getD c nilS) k) (b := []) lt
        rw [List.append_nil] at this
        exact this
      obtain ⟨j1, j2⟩ := join_pl (a := halvA (rowN rows n) c k) (b := b) (c := c) (k := k) (by unfold halvA; rw [List.length_append, lt]; exact Nat.lt_succ_self c) (by rw [ca, len_zT]; omega)
      exact mem_of_row (splice_at (j := 0) (by omega) (by simp)) j1 j2
section
variable {P : Program} {w : World} {K : PySem.W.Frag} {mg : Str → Option Value} {base : Heap} {cs : List (Addr × Addr)} {U S R C G : Addr}
theorem sqT_one {H H' : Hp} {cu t Ux dx : Addr} {fs : List (Str × V)} {xs : List V} {cs : List (Addr × Addr)} (x : ExtC cs cu H H') (h : H cu = some (.ins Ux dx fs)) (ht : SqT K H t xs) : SqT K H' t xs := sqT_km x.km1 (ins_mob h) ht
/-- a deed of its sheet was done -/
theorem CurD.done {cu sh rl dl st D : Addr} {H H1 : Hp} {as : List Addr} {rows rows' : List (List Str)} {gap least : Int} {ts : List Addr} {ps : List (List (List Str))} {av : Addr → Prop} {p : Nat × Nat × Nat} {l : List (List V)} (hC : CurD K U S H cu sh rl dl st as rows gap least ts ps av p) (dn : Done K cs S H H1 sh rl dl st rows' gap least (rows :: ps) av D l) (hp : p ∈ pageSp rows') : ∃ as' ts', CurD K U S H1 cu sh rl dl st as' rows' gap least ts' (rows :: ps) av p := by
  obtain ⟨as', ts', hS⟩ := dn.sht
  obtain ⟨dx, sp, h1, h2⟩ := hC.cur
  exact ⟨as', ts', ⟨dx, sp, dn.ext _ _ h1 (.inl fun ps z => by cases z) hC.ncl.1 hC.ncl.2, sqT_exs dn.ext hC.sht.rl_ hC.sht.dl_ h2⟩, hS.less fun x h => .inl h, hp⟩
/-- Cursor.press -/
def spPress (K : PySem.W.Frag) (cs : List (Addr × Addr)) (U S R C : Addr) : Sp := fun vs H Q E => ∃ (cu : Addr) (z : Str), vs = [.ref cu, .str z] ∧ Tabs cs H ∧ SignOk z ∧ CurAt K U S H cu fun sh rl dl st as rows gap least ts ps av p => ps.length ≤ 3000 ∧
  (∀ rows', doneR rows (pressD p z) = some rows' → ∀ as' ts' H', KN cs (ofCur cu rl dl) H H' → Tabs cs H' → (∀ b, H' b = none → H b = none) → CurD K U S H' cu sh rl dl st as' rows' gap least ts' (rows :: ps) av (nextP p z) → Q .non H') ∧
  (doneR rows (pressD p z) = none → ∀ c H', c = R ∨ c = C → Ex cs H H' → E (.ref c) none H')
def spRub (K : PySem.W.Frag) (cs : List (Addr × Addr)) (U S R C : Addr) : Sp := fun vs H Q E => ∃ (cu : Addr), vs = [.ref cu] ∧ Tabs cs H ∧ CurAt K U S H cu fun sh rl dl st as rows gap least ts ps av p => ps.length ≤ 3000 ∧
  (∀ q rows', besideR rows p (-1) = some q → doneR rows (rubD p q) = some rows' → ∀ as' ts' H', KN cs (ofCur cu rl dl) H H' → Tabs cs H' → (∀ b, H' b = none → H b = none) → CurD K U S H' cu sh rl dl st as' rows' gap least ts' (rows :: ps) av q → Q .non H') ∧
  ((∀ q, besideR rows p (-1) = some q → doneR rows (rubD p q) = none) → ∀ c H', c = R ∨ c = C → Ex cs H H' → E (.ref c) none H')
abbrev nmRub : List Str := ["self", "spot", "row", "cell", "place"]
theorem sc_rub : FnScope nmRub ["self"] (defScope (mth nCursor 8)) := ⟨rfl, rfl, rfl, by decide +kernel, rfl, by decide +kernel, by decide +kernel⟩
theorem ok_rub {f g1 g2 g3 : Addr} {fd fd1 fd2 fd3 : FuncData} (Er : SErr K mg R C G) (X : CuC K U S) (F : Fun K "rub" "Cursor.rub" (mth nCursor 8) f fd)
    (M1 : Meth K S "unite" g1) (G1 : FnOk P w K mg base (L2.CX P w) 17 g1 fd1 ["self", "number"] (spUnite K cs S R C)) (b1 : Binds K fd1 ["self", "number"] [])
    (M2 : Meth K S "erase" g2) (G2 : FnOk P w K mg base (L2.CX P w) 17 g2 fd2 ["self", "number", "cell", "place"] (spErase K cs S R C)) (b2 : Binds K fd2 ["self", "number", "cell", "place"] [])
    (M3 : Meth K U "beside" g3) (G3 : FnOk P w K mg base CX0 3 g3 fd3 ["self", "by"] (spBeside K U S)) (b3 : Binds K fd3 ["self", "by"] []) :
    FnOk P w K mg base (L2.CX P w) 18 f fd ["self"] (spRub K cs U S R C) := by
  refine F.okX sc_rub (fun vs H Q E h => ?_) (fun cdv A outer s H vs Q E hr h => ?_)
  · obtain ⟨cu, rfl, _⟩ := h
    rfl
  · obtain ⟨cu, rfl, hT, sh, rl, dl, st, as, rows, gap, least, ts, ps, av, p, hC, hps, ky, kn⟩ := h
    have nd := sc_rub.nd
    have r3 : Room 3 _ := hr.mono (by decide)
    refine ⟨_, pss_cons (ps_set (i := 1) nd rfl (.inl rfl) (pe_meth (pv 0) X.cC M3 G3 r3 b3 .nil pass0 (pa_cons (pe_un un_neg pe_int) pa_nil)))
      (pss_cons (ps_if (pt_cmpR op_isN (pv 1) pe_non (nomark _)) (pss_one (ps_raise rfl (takes_of rfl rfl rfl rfl) (pmk_own PySem.F.excBase_ValueError Er.cell.exc Er.cell.mg_ Er.cell.kp (raises_own Er.cell.sub Er.cell.ty) rfl))) pss_nil)
      (pss_cons (ps_asg (pv 1) (pg_tup rfl (pgs_cons (pg_name (i := 2) nd rfl (.inl rfl)) (pgs_cons (pg_name (i := 3) nd rfl (.inl rfl)) (pgs_cons (pg_name (i := 4) nd rfl (.inl rfl)) pgs_nil)))))
      (pss_cons (ps_if (pt_cmpR op_lt (pv 2) (pe_ix ix_tup (pe_fld (pv 0) rfl) pe_int (fun _ _ => rfl)) (nomark _))
        (pss_one (ps_expr (pe_methS (pe_fld (pv 0) rfl) X.sh.cS M1 G1 hr b1 (fun σ => passAt (takes_of rfl rfl rfl rfl) σ) (pa_cons (pv 2) pa_nil))))
        (pss_one (ps_expr (pe_methS (pe_fld (pv 0) rfl) X.sh.cS M2 G2 hr b2 (fun σ => passAt (takes_of rfl rfl rfl rfl) σ) (pa_cons (pv 2) (pa_cons (pv 3) (pa_cons (pv 4) pa_nil)))))))
      (pss_one (ps_fld (pv 0) (pv 1) rfl))))), ?_⟩
    obtain ⟨dx, sp, h1, h2⟩ := id hC.cur
    refine ⟨_, rfl, cu, dx, _, rfl, h1, rfl, 1, rfl, cu, -1, rfl, sh, rl, dl, st, as, rows, gap, least, ts, ps, av, p, hC, fun v H1 x1 hv => ?_⟩
    have hC1 := hC.gw (same_extN x1)
    have t1 : Tabs cs H1 := tabs_ext hT x1
    have e01 := ex_same hT x1
    cases e : besideR rows p (-1) with
    | none =>
      rw [e] at hv
      cases hv
      refine ⟨_, rfl, rfl, true, rfl, iteT ?_⟩
      exact kn (fun q hq => by rw [e] at hq; cases hq) C H1 (.inr rfl) e01
    | some q =>
      rw [e] at hv
      obtain ⟨t, rfl, ht⟩ := hv
      obtain ⟨n, c, k⟩ := q
      have hq := beside_mem e
      have pl := pl_of hq
      have h11 := x1 _ _ h1
      have h21 := same_sqT x1 h2
      obtain ⟨dx2, h31⟩ := hC1.sht.she
      -- behind the deed
      have behind : ∀ rows', doneR rows (rubD p (n, c, k)) = some rows' → ∀ l D H', Done K cs S H1 H' sh rl dl st rows' gap least (rows :: ps) av D l → H' cu = some (.ins U dx [("sheet", .ref sh), ("spot", .ref sp)]) ∧ Q .non (upd H' cu (.ins U dx (putF "spot" (.ref t) [("sheet", .ref sh), ("spot", .ref sp)]))) := fun rows' e2 l D H' dn => by
        obtain ⟨as', ts', hS⟩ := dn.sht
        have g1 := dn.ext _ _ h11 (.inl fun ps z => by cases z) hC.ncl.1 hC.ncl.2
        have ht' := sqT_exs dn.ext hC1.sht.rl_ hC1.sht.dl_ ht
        have hm := rub_mem hq e2
        have hCx : CurD K U S H' cu sh rl dl st as' rows' gap least ts' (rows :: ps) av (0, 0, 0) → True := fun _ => trivial
        have x2 : ExtC cs cu H' (upd H' cu (.ins U dx (putF "spot" (.ref t) [("sheet", .ref sh), ("spot", .ref sp)]))) := fun b o h _ n => by rw [upd_ne n]; exact h
        refine ⟨g1, ky _ rows' e e2 as' ts' _ (((KN.of (same_xn x1)).tr dn.ext.km).tr x2.km) (tabs_ins dn.tab g1) (fun b hb => same_old x1 (dn.old b ?_)) ⟨⟨dx, t, upd_same, sqT_one x2 g1 ht'⟩, (hS.less fun x h => .inl h).but x2 g1 upd_same hC.ncs, hm⟩⟩
        by_cases z : b = cu
        · rw [z, upd_same] at hb; cases hb
        · rw [upd_ne z] at hb; exact hb
      refine ⟨_, rfl, rfl, false, rfl, iteF ⟨_, rfl, t, _, rfl, ht, rfl, _, _, rfl, _, _, rfl, _, _, rfl, rfl, ?_⟩⟩
      obtain ⟨pn, pc, pk⟩ := p
      refine ⟨_, rfl, _, rfl, cu, U, dx, _, _, rfl, h11, X.cC, X.nSpot, rfl, sp, _, 0, .int (pn : Nat), rfl, rfl, h21, rfl, _, _, rfl, rfl, ?_⟩
      by_cases hl : n < pn
      · have ed : rubD (pn, pc, pk) (n, c, k) = .unite n := if_pos hl
        refine ⟨true, dT (by omega), iteT ?_⟩
        refine ⟨_, rfl, cu, U, dx, _, _, rfl, h11, X.cC, X.nSheet, rfl, sh, dx2, _, rfl, h31, rfl, _, rfl, sh, n, rfl, rl, dl, st, as, rows, gap, least, ts, ps, av, t1, hC1.sht, hps, pl.n_, ⟨fun rows' l e3 D H' dn => ?_, fun e3 cl H' hcl x => ?_⟩⟩
        · have e2 : doneR rows (rubD (pn, pc, pk) (n, c, k)) = some rows' := by rw [ed, gone_done (gap := gap) (least := least), e3]; rfl
          obtain ⟨g1, fin⟩ := behind rows' e2 l D H' dn
          exact ⟨_, rfl, _, rfl, cu, U, dx, _, rfl, g1, X.cC, X.nSpot, by show 2 < 1000; decide, fin⟩
        · exact kn (fun q hq => by rw [e] at hq; cases hq; rw [ed, gone_done (gap := gap) (least := least), e3]; rfl) cl H' hcl (e01.trans x)
      · have ed : rubD (pn, pc, pk) (n, c, k) = .erase n c k := if_neg hl
        refine ⟨false, dF (by omega), iteF ?_⟩
        refine ⟨_, rfl, cu, U, dx, _, _, rfl, h11, X.cC, X.nSheet, rfl, sh, dx2, _, rfl, h31, rfl, _, rfl, _, rfl, _, rfl, sh, n, c, k, rfl, rl, dl, st, as, rows, gap, least, ts, ps, av, t1, hC1.sht, hps, pl, ⟨fun rows' l e3 D H' dn => ?_, fun e3 cl H' hcl x => ?_⟩⟩
        · have e2 : doneR rows (rubD (pn, pc, pk) (n, c, k)) = some rows' := by rw [ed, gone_done (gap := gap) (least := least), e3]; rfl
          obtain ⟨g1, fin⟩ := behind rows' e2 l D H' dn
          exact ⟨_, rfl, _, rfl, cu, U, dx, _, rfl, g1, X.cC, X.nSpot, by show 2 < 1000; decide, fin⟩
        · exact kn (fun q hq => by rw [e] at hq; cases hq; rw [ed, gone_done (gap := gap) (least := least), e3]; rfl) cl H' hcl (e01.trans x)
/-- Cursor.back -/
def spCuBack (K : PySem.W.Frag) (cs : List (Addr × Addr)) (U S : Addr) : Sp := fun vs H Q _ => ∃ (cu : Addr), vs = [.ref cu] ∧ Tabs cs H ∧ CurAt K U S H cu fun sh rl dl st as rows gap least ts ps av p =>
  (ps = [] → ∀ H', KN cs (ofCur cu rl dl) H H' → Tabs cs H' → (∀ b, H' b = none → H b = none) → CurD K U S H' cu sh rl dl st as rows gap least ts ps av (0, 0, 0) → Q (.bl false) H') ∧
  (∀ rows' ps', ps = rows' :: ps' → ∀ as' ts' H', KN cs (ofCur cu rl dl) H H' → Tabs cs H' → (∀ b, H' b = none → H b = none) → CurD K U S H' cu sh rl dl st as' rows' gap least ts' ps' av (0, 0, 0) → Q (.bl true) H')
theorem sc_cuback : FnScope ["self"] ["self"] (defScope (mth nCursor 9)) := ⟨rfl, rfl, rfl, by decide +kernel, rfl, by decide +kernel, by decide +kernel⟩
theorem ok_cuback {f g : Addr} {fd fdg : FuncData} (X : CuC K U S) (FT : FirstT K mg) (F : Fun K "back" "Cursor.back" (mth nCursor 9) f fd)
    (M : Meth K S "back" g) (G : FnOk P w K mg base CX0 1 g fdg ["self"] (spBackD K cs S)) (bd : Binds K fdg ["self"] []) : FnOk P w K mg base CX0 2 f fd ["self"] (spCuBack K cs U S) := by
  obtain ⟨aF, eF, hF⟩ := FT
  refine F.ok sc_cuback (fun vs H Q E h => ?_) (fun cdv A outer s H vs Q E hr h => ?_)
  · obtain ⟨cu, rfl, _⟩ := h
    rfl
  · obtain ⟨cu, rfl, hT, sh, rl, dl, st, as, rows, gap, least, ts, ps, av, p, hC, k1, k2⟩ := h
    refine ⟨_, pss_cons (ps_fld (pv 0) (pe_glob (v := .ref aF) rfl eF rfl) rfl) (pss_one (ps_ret (pe_meth0 (pe_fld (pv 0) rfl) X.sh.cS M G hr bd .nil pass0))), ?_⟩
    obtain ⟨dx, sp, h1, h2⟩ := id hC.cur
    refine ⟨_, rfl, cu, U, dx, _, rfl, h1, X.cC, X.nSpot, by show 2 < 1000; decide, ?_⟩
    obtain ⟨y1, y2, y3, y4⟩ := hC.spot h1 (hF H) (first_mem hC.sht.ok) hT
    have g0 : upd H cu (.ins U dx (putF "spot" (.ref aF) [("sheet", .ref sh), ("spot", .ref sp)])) cu = some (.ins U dx [("sheet", .ref sh), ("spot", .ref aF)]) := upd_same
    generalize upd H cu (.ins U dx (putF "spot" (.ref aF) [("sheet", .ref sh), ("spot", .ref sp)])) = H1 at y1 y2 y3 y4 g0 ⊢
    obtain ⟨dx2, h3⟩ := id y4.sht.she
    refine ⟨_, rfl, cu, U, dx, _, _, rfl, g0, X.cC, X.nSheet, rfl, sh, dx2, _, rfl, h3, rfl, sh, rl, dl, st, as, rows, gap, least, ts, ps, av, rfl, y2, y4.sht, fun e => k1 e _ y1.km y2 y3 y4, fun rows' ps' e as' ts' H' x t old hS => ?_⟩
    exact k2 rows' ps' e as' ts' H' (y1.km.tr x.km) t (fun b hb => y3 b (old b hb)) ⟨⟨dx, aF, x _ _ g0 (.inl fun ps z => by cases z) hC.ncl.1 hC.ncl.2, hF _⟩, hS, first_mem hS.ok⟩
end
end TGK

namespace TG
open PySem PySem.Spec PyProof.Rows L2 Gx
/-! ### texts of pages -/
abbrev tabS : Str := "\t"
abbrev lineS : Str := "\n"
def rowT (r : List Str) : Str := Txt.join tabS r
def pageT (rows : List (List Str)) : Str := Txt.join lineS (rows.map rowT)
theorem cl_tabS : cl tabS = [9] := by decide +kernel
theorem cl_lineS : cl lineS = [10] := by decide +kernel
theorem cl_joinL (y : Str) (ps : List Str) : cl (Txt.join y ps) = TL.joinL (cl y) (ps.map cl) := by
  rw [TL.join_eq]
  exact TL.tl_join y ps
theorem joinL_mem (S : List Nat) : ∀ (ps : List (List Nat)) (c : Nat), c ∈ TL.joinL S ps → c ∈ S ∨ ∃ p ∈ ps, c ∈ p
  | [], c, h => by cases h
  | [p], c, h => .inr ⟨p, by simp, h⟩
  | p :: q :: r, c, h => by
    have h : c ∈ p ++ (S ++ TL.joinL S (q :: r)) := h
    rcases List.mem_append.mp h with h | h
    · exact .inr ⟨p, by simp, h⟩
    rcases List.mem_append.mp h with h | h
    · exact .inl h
    rcases joinL_mem S (q :: r) c h with h | ⟨x, hx, hc⟩
    · exact .inl h
    · exact .inr ⟨x, by simp at hx ⊢; exact .inr hx, hc⟩
theorem joinL_len (S : List Nat) (m : Nat) : ∀ (ps : List (List Nat)), (∀ p ∈ ps, p.length ≤ m) → (TL.joinL S ps).length ≤ ps.length * (m + S.length)
  | [], _ => Nat.zero_le _
  | [p], h => by
    have := h p (by simp)
    show p.length ≤ 1 * (m + S.length)
    omega
  | p :: q :: r, h => by
    have h1 := h p (by simp)
    have h2 := joinL_len S m (q :: r) fun x hx => h x (by simp at hx ⊢; exact .inr hx)
    show (p ++ (S ++ TL.joinL S (q :: r))).length ≤ ((q :: r).length + 1) * (m + S.length)
    rw [List.length_append, List.length_append, Nat.add_mul]
    omega
theorem rowT_sg {r : List Str} (h : RowOk r) : ∀ c ∈ cl (rowT r), c = 9 ∨ SgOk c := by
  intro c hc
  unfold rowT at hc
  rw [cl_joinL, cl_tabS] at hc
  rcases joinL_mem _ _ _ hc with h1 | ⟨p, hp, h1⟩
  · exact .inl (by simpa using h1)
  · obtain ⟨z, hz, rfl⟩ := List.mem_map.mp hp
    exact .inr ((h.3 z hz).2 c h1)
theorem rowT_len {r : List Str} (h : RowOk r) : (rowT r).length ≤ 66 := by
  rw [len_cl]
  unfold rowT
  rw [cl_joinL]
  have := joinL_len (cl tabS) 10 (r.map cl) fun p hp => by
    obtain ⟨z, hz, rfl⟩ := List.mem_map.mp hp
    have := (h.3 z hz).1
    rw [← len_cl]
    exact this
  rw [List.length_map, cl_tabS, show ([9] : List Nat).length = 1 from rfl] at this
  rw [cl_tabS]
  have := h.2
  omega
theorem pageT_len {rows : List (List Str)} (h : PgOk rows) : (pageT rows).length ≤ 2010 := by
  rw [len_cl]
  unfold pageT
  rw [cl_joinL]
  have := joinL_len (cl lineS) 66 ((rows.map rowT).map cl) fun p hp => by
    obtain ⟨z, hz, rfl⟩ := List.mem_map.mp hp
    obtain ⟨r, hr, rfl⟩ := List.mem_map.mp hz
    rw [← len_cl]
    exact rowT_len (h.rows r hr)
  rw [List.length_map, List.length_map, cl_lineS, show ([10] : List Nat).length = 1 from rfl] at this
  rw [cl_lineS]
  have := h.len
  omega
theorem split_row {r : List Str} (h : RowOk r) : Txt.split (rowT r) tabS = r := by
  refine TL.split_join (s := 9) (S := []) cl_tabS (by decide +kernel) ?_ fun p hp q => ?_
  · intro e
    have := h.1
    rw [e] at this
    simp at this
  · have q : 9 ∈ cl p := q
    have := (h.3 p hp).2 9 q
    unfold SgOk at this
    omega
theorem split_page {rows : List (List Str)} (h : PgOk rows) : Txt.split (pageT rows) lineS = rows.map rowT := by
  refine TL.split_join (s := 10) (S := []) cl_lineS (by decide +kernel) ?_ fun p hp q => ?_
  · intro e
    have := h.pos
    have e2 := congrArg List.length e
    rw [List.length_map] at e2
    simp at e2
    rw [e2] at this
    simp at this
  · obtain ⟨r, hr, rfl⟩ := List.mem_map.mp hp
    have q : 10 ∈ cl (rowT r) := q
    rcases rowT_sg (h.rows r hr) 10 q with e | e
    · omega
    · unfold SgOk at e
      omega
theorem kind_min1 (y : Str) (hy : Builtin.Str.strKind y = 1) (x : Str) : ¬ Builtin.Str.strKind x < Builtin.Str.strKind y := by
  rw [hy]
  unfold Builtin.Str.strKind
  split
  · decide
  · split <;> decide
theorem splLenT (S : List Nat) : ∀ (l acc : List Nat) (k : Nat) (p : List Nat), p ∈ TL.spl S k acc l → p.length ≤ acc.length + l.length
  | [], acc, k, p, h => by
    unfold TL.spl at h
    rw [List.mem_singleton] at h
    rw [h]
    exact Nat.le_add_right _ _
  | c :: r, acc, 0, p, h => by
    unfold TL.spl at h
    rw [List.length_cons]
    split at h
    · rcases List.mem_cons.mp h with z | z
      · rw [z]; omega
      · have := splLenT S r [] _ p z
        simp at this
        omega
    · have := splLenT S r _ _ p h
      rw [List.length_append, List.length_singleton] at this
      omega
  | c :: r, acc, k + 1, p, h => by
    unfold TL.spl at h
    have := splLenT S r _ _ p h
    rw [List.length_cons]
    omega
theorem split_clL (z y : Str) (h0 : cl y ≠ []) (hy : Builtin.Str.strKind y = 1) : (Txt.split z y).map cl = TL.spl (cl y) 0 [] (cl z) :=
  TL.split_spl z y h0 (kind_min1 y hy z)
theorem split_pieceL {z y p : Str} (h0 : cl y ≠ []) (hy : Builtin.Str.strKind y = 1) (h : p ∈ Txt.split z y) : p.length ≤ z.length := by
  have h2 : cl p ∈ TL.spl (cl y) 0 [] (cl z) := by rw [← split_clL z y h0 hy]; exact List.mem_map_of_mem h
  have := splLenT (cl y) _ _ _ _ h2
  simpa [cl, Str.length] using this
theorem kind_line : Builtin.Str.strKind lineS = 1 := by decide +kernel
theorem kind_tab : Builtin.Str.strKind tabS = 1 := by decide +kernel
/-- the rows of a text -/
def rowsT (z : Str) : List (List Str) := (Txt.split z lineS).map fun l => Txt.split l tabS
theorem rowsT_page {rows : List (List Str)} (h : PgOk rows) : rowsT (pageT rows) = rows := by
  unfold rowsT
  rw [split_page h, List.map_map]
  conv => rhs; rw [← List.map_id rows]
  apply List.map_congr_left
  intro r hr
  exact split_row (h.rows r hr)
structure RowsAt (ps : List Addr) (rows : List (List Str)) (H : Hp) : Prop where
  len : ps.length = rows.length
  row : ∀ (i : Nat) (q : Addr) (z : List Str), ps[i]? = some q → rows[i]? = some z → H q = some (.tup (sV z))
def rTupT (K : PySem.W.Frag) : List V → Hp → VK → Prop := fun xs H Q => ∃ p ys, xs = [V.ref p] ∧ ((SqL K H p ys ∧ ∀ l, H l = none → Q (.ref l) (upd H l (.tup ys))) ∨ (SqT K H p ys ∧ Q (.ref p) H))
def rJoin (K : PySem.W.Frag) : V → List V → Hp → VK → Prop := fun x xs H Q => ∃ a p, ∃ ys : List Str, x = .str a ∧ xs = [.ref p] ∧ (SqL K H p (ys.map V.str) ∨ SqT K H p (ys.map V.str)) ∧ (ys.map (·.length)).sum + ys.length * a.length ≤ 16777216 ∧ Q (.str (Txt.join a ys)) H
end TG

namespace TG
open PySem PySem.Spec PyProof.Rows L2 NdefX GenW Gx Lv
/-! ### a text's rows, sign by sign -/
def spl1 (s : Nat) : List Nat → List Nat → List (List Nat)
  | acc, [] => [acc]
  | acc, c :: l => if c = s then acc :: spl1 s [] l else spl1 s (acc ++ [c]) l
theorem spl_one (s : Nat) : ∀ (l acc : List Nat), TL.spl [s] 0 acc l = spl1 s acc l
  | [], acc => rfl
  | c :: r, acc => by
    have hp : TL.pre [s] (c :: r) = decide (c = s) := by
      show (List.take 1 (c :: r) == [s]) = _
      by_cases h : c = s
      · subst h; simp
      · simp [h]
    unfold TL.spl spl1
    rw [hp]
    by_cases h : c = s
    · rw [if_pos (decide_eq_true h), if_pos h]
      rw [← spl_one s r []]
      rfl
    · rw [if_neg (by rw [decide_eq_false h]; exact Bool.false_ne_true), if_neg h]
      exact spl_one s r _
theorem spl1_ne (s : Nat) : ∀ (l acc : List Nat), spl1 s acc l ≠ []
  | [], acc => by simp [spl1]
  | c :: r, acc => by
    unfold spl1
    split
    · simp
    · exact spl1_ne s r _
theorem spl1_mem (s : Nat) : ∀ (l acc : List Nat) (p : List Nat), p ∈ spl1 s acc l → s ∉ acc → s ∉ p ∧ ∀ c ∈ p, c ∈ acc ∨ c ∈ l
  | [], acc, p, h, ha => by
    unfold spl1 at h
    rw [List.mem_singleton] at h
    subst h
    exact ⟨ha, fun c hc => .inl hc⟩
  | c :: r, acc, p, h, ha => by
    unfold spl1 at h
    split at h
    · rename_i hcs
      rcases List.mem_cons.mp h with rfl | h
      · exact ⟨ha, fun d hd => .inl hd⟩
      · obtain ⟨h1, h2⟩ := spl1_mem s r [] p h (by simp)
        exact ⟨h1, fun d hd => by
          rcases h2 d hd with z | z
          · cases z
          · exact .inr (List.mem_cons_of_mem _ z)⟩
    · rename_i hcs
      obtain ⟨h1, h2⟩ := spl1_mem s r (acc ++ [c]) p h (fun z => by
        rcases List.mem_append.mp z with z | z
        · exact ha z
        · exact hcs (List.mem_singleton.mp z).symm)
      exact ⟨h1, fun d hd => by
        rcases h2 d hd with z | z
        · rcases List.mem_append.mp z with z | z
          · exact .inl z
          · rw [List.mem_singleton.mp z]; exact .inr List.mem_cons_self
        · exact .inr (List.mem_cons_of_mem _ z)⟩
theorem spl1_end (s : Nat) : ∀ (l acc : List Nat), spl1 s acc (l ++ [s]) = spl1 s acc l ++ [[]]
  | [], acc => by simp [spl1]
  | c :: r, acc => by
    show spl1 s acc (c :: (r ++ [s])) = _
    unfold spl1
    split
    · rw [spl1_end s r []]; rfl
    · exact spl1_end s r _
theorem spl1_more (s c : Nat) (hc : c ≠ s) : ∀ (l acc : List Nat) (R : List (List Nat)) (C : List Nat), spl1 s acc l = R ++ [C] → spl1 s acc (l ++ [c]) = R ++ [C ++ [c]]
  | [], acc, R, C, h => by
    unfold spl1 at h
    have e : R = [] ∧ C = acc := by
      cases R with
      | nil => injection h with h _; exact ⟨rfl, h.symm⟩
      | cons x R => injection h with _ h; cases R <;> cases h
    obtain ⟨rfl, rfl⟩ := e
    simp [spl1, hc]
  | d :: r, acc, R, C, h => by
    show spl1 s acc (d :: (r ++ [c])) = _
    unfold spl1 at h ⊢
    split
    · rename_i hd
      rw [if_pos hd] at h
      cases R with
      | nil =>
        injection h with _ h
        exact absurd h (spl1_ne s r [])
      | cons x R =>
        injection h with h1 h2
        rw [spl1_more s c hc r [] R C h2, h1]
        rfl
    · rename_i hd
      rw [if_neg hd] at h
      exact spl1_more s c hc r _ R C h
/-- what is gone on with: cells, a cell, and the signs to come, the last of which is a line's end -/
def goR : List (List Nat) → List Nat → List Nat → List (List (List Nat))
  | _, _, [] => []
  | R, C, c :: l => if c = 9 then goR (R ++ [C]) [] l else if c = 10 then (R ++ [C]) :: goR [] [] l else goR R (C ++ [c]) l
theorem go_split : ∀ (l acc : List Nat) (R : List (List Nat)) (C : List Nat), spl1 9 [] acc = R ++ [C] → (spl1 10 acc l).map (spl1 9 []) = goR R C (l ++ [10])
  | [], acc, R, C, h => by
    show [spl1 9 [] acc] = goR R C [10]
    rw [h]
    rfl
  | c :: l, acc, R, C, h => by
    show (spl1 10 acc (c :: l)).map (spl1 9 []) = goR R C (c :: (l ++ [10]))
    unfold spl1 goR
    by_cases h9 : c = 9
    · subst h9
      rw [if_neg (by decide), if_pos rfl]
      exact go_split l _ _ _ (by rw [spl1_end, h])
    · rw [if_neg h9]
      by_cases h10 : c = 10
      · rw [if_pos h10, if_pos h10, List.map_cons, h, go_split l [] [] [] rfl]
      · rw [if_neg h10, if_neg h10]
        exact go_split l _ _ _ (spl1_more 9 c h9 acc [] R C h)
theorem rowsT_cl (z : Str) : (rowsT z).map (List.map cl) = goR [] [] (cl z ++ [10]) := by
  have e1 := split_clL z lineS (by rw [cl_lineS]; decide) kind_line
  rw [cl_lineS, spl_one] at e1
  rw [← go_split (cl z) [] [] [] rfl, ← e1, List.map_map]
  unfold rowsT
  rw [List.map_map]
  apply List.map_congr_left
  intro p _
  have e2 := split_clL p tabS (by rw [cl_tabS]; decide) kind_tab
  rw [cl_tabS, spl_one] at e2
  exact e2
/-- signs, tabs and line ends -/
def TxtSg (z : Str) : Prop := ∀ c ∈ cl z, SgOk c ∨ c = 9 ∨ c = 10
theorem rowsT_sg {z : Str} (h : TxtSg z) : ∀ r ∈ rowsT z, ∀ x ∈ r, (∀ c ∈ cl x, SgOk c) ∧ x.length ≤ z.length := by
  intro r hr x hx
  unfold rowsT at hr
  obtain ⟨p, hp, rfl⟩ := List.mem_map.mp hr
  have l1 := split_pieceL (by rw [cl_lineS]; decide) kind_line hp
  have l2 := split_pieceL (by rw [cl_tabS]; decide) kind_tab hx
  have e1 := split_clL z lineS (by rw [cl_lineS]; decide) kind_line
  rw [cl_lineS, spl_one] at e1
  have e2 := split_clL p tabS (by rw [cl_tabS]; decide) kind_tab
  rw [cl_tabS, spl_one] at e2
  have m1 : cl p ∈ spl1 10 [] (cl z) := by rw [← e1]; exact List.mem_map_of_mem hp
  have m2 : cl x ∈ spl1 9 [] (cl p) := by rw [← e2]; exact List.mem_map_of_mem hx
  obtain ⟨a1, a2⟩ := spl1_mem 10 _ _ _ m1 (by simp)
  obtain ⟨b1, b2⟩ := spl1_mem 9 _ _ _ m2 (by simp)
  refine ⟨fun c hc => ?_, by omega⟩
  rcases b2 c hc with q | q
  · cases q
  rcases a2 c q with q2 | q2
  · cases q2
  rcases h c q2 with q3 | q3 | q3
  · exact q3
  · rw [q3] at hc; exact absurd hc b1
  · rw [q3] at q; exact absurd q a1
theorem rowsT_pos (z : Str) : 1 ≤ (rowsT z).length ∧ ∀ r ∈ rowsT z, 1 ≤ r.length := by
  have ne : ∀ (x y : Str), cl y ≠ [] → Builtin.Str.strKind y = 1 → (∃ s, cl y = [s]) → 1 ≤ (Txt.split x y).length := fun x y h0 hk ⟨s, hs⟩ => by
    have e := split_clL x y h0 hk
    rw [hs, spl_one] at e
    have h := spl1_ne s (cl x) []
    rw [← e] at h
    cases q : Txt.split x y with
    | nil => rw [q] at h; exact absurd rfl h
    | cons a b => simp
  refine ⟨?_, fun r hr => ?_⟩
  · unfold rowsT
    rw [List.length_map]
    exact ne z lineS (by rw [cl_lineS]; decide) kind_line ⟨10, cl_lineS⟩
  · unfold rowsT at hr
    obtain ⟨p, _, rfl⟩ := List.mem_map.mp hr
    exact ne p tabS (by rw [cl_tabS]; decide) kind_tab ⟨9, cl_tabS⟩
theorem rowsT_len {z : Str} (h : z.length ≤ 1000000) : (rowsT z).length ≤ 1000002 ∧ ∀ r ∈ rowsT z, r.length ≤ 1000002 := by
  refine ⟨?_, fun r hr => ?_⟩
  · unfold rowsT
    rw [List.length_map]
    exact Nat.le_trans (PyProof.Rows.split_le z _) (by omega)
  · unfold rowsT at hr
    obtain ⟨p, hp, rfl⟩ := List.mem_map.mp hr
    have l1 := split_pieceL (by rw [cl_lineS]; decide) kind_line hp
    exact Nat.le_trans (PyProof.Rows.split_le p _) (by omega)
/-! ### which row can't be -/
def fitR (r : List Str) : Bool := decide (r.length ≤ 6) && r.all fun z => decide (z.length ≤ 10)
structure BadAt (rows : List (List Str)) (n : Nat) : Prop where
  lt : n < rows.length
  n30 : n ≤ 30
  bad : n = 30 ∨ ∃ r, rows[n]? = some r ∧ fitR r = false
  ok : ∀ i r, i < n → rows[i]? = some r → fitR r = true
def GoodR (rows : List (List Str)) : Prop := rows.length ≤ 30 ∧ ∀ r ∈ rows, fitR r = true
theorem good_or (rows : List (List Str)) : GoodR rows ∨ ∃ n, BadAt rows n := by
  have key : ∀ n, n ≤ rows.length → n ≤ 30 → (∃ m, BadAt rows m) ∨ ∀ i r, i < n → rows[i]? = some r → fitR r = true := by
    intro n
    induction n with
    | zero => exact fun _ _ => .inr fun i r h => absurd h (Nat.not_lt_zero _)
    | succ n ih =>
      intro h1 h2
      rcases ih (by omega) (by omega) with h | h
      · exact .inl h
      · obtain ⟨r, hr⟩ := getP (xs := rows) (i := n) (by omega)
        cases hf : fitR r with
        | false => exact .inl ⟨n, by omega, by omega, .inr ⟨r, hr, hf⟩, h⟩
        | true =>
          refine .inr fun i q hi hq => ?_
          by_cases e : i = n
          · subst e; rw [hr] at hq; cases hq; exact hf
          · exact h i q (by omega) hq
  by_cases hl : rows.length ≤ 30
  · rcases key rows.length (Nat.le_refl _) hl with h | h
    · exact .inr h
    · refine .inl ⟨hl, fun r hr => ?_⟩
      obtain ⟨i, hi, e⟩ := List.getElem_of_mem hr
      exact h i r hi (by rw [List.getElem?_eq_getElem hi, e])
  · rcases key 30 (by omega) (Nat.le_refl _) with h | h
    · exact .inr h
    · exact .inr ⟨30, by omega, Nat.le_refl _, .inl rfl, h⟩
theorem good_pg {z : Str} (h : TxtSg z) (g : GoodR (rowsT z)) : PgOk (rowsT z) := by
  refine ⟨(rowsT_pos z).1, g.1, fun r hr => ?_⟩
  have f := g.2 r hr
  unfold fitR at f
  rw [Bool.and_eq_true, List.all_eq_true] at f
  exact ⟨(rowsT_pos z).2 r hr, of_decide_eq_true f.1, fun x hx => ⟨of_decide_eq_true (f.2 x hx), (rowsT_sg h r hr x hx).1⟩⟩
end TG

namespace TG
open PySem PySem.Spec PyProof.Rows L2 Gx
/-! ### what is told of a def, told otherwise -/
section
variable {P : Program} {w : World} {K : PySem.W.Frag} {mg : Str → Option Value} {base : Heap} {k : Nat} {f : Addr} {fd : FuncData} {ps : List Str} {sp sp1 sp2 : Sp}
/-- a def that may raise, where it doesn't -/
def noE (sp : Sp) : Sp := fun vs H Q _ => sp vs H Q fun _ _ _ => False
theorem fn0_of (F : FnOk P w K mg base (L2.CX P w) k f fd ps sp) : FnOk P w K mg base CX0 k f fd ps (noE sp) := by
  refine ⟨fun vs H Q E h => F.len vs H Q _ h, fun A outer s H args us vs Q E hr e0 b r h => ?_⟩
  refine codeAny_mono (F.run A outer s H args us vs Q (fun _ _ _ => False) hr e0 b r h) fun r' s' hq => ?_
  cases r' with
  | error er =>
    obtain ⟨a, B, H', cls, d, _, _, _, _, _, _, _, z⟩ := hq
    exact z.elim
  | ok fl =>
    cases fl with
    | ret u => exact hq
    | next => exact hq
    | brk => exact False.elim hq
    | cont => exact False.elim hq
def orSp (sp1 sp2 : Sp) : Sp := fun vs H Q E => sp1 vs H Q E ∨ sp2 vs H Q E
theorem fn_or {CX : L2.CXT} (F1 : FnOk P w K mg base CX k f fd ps sp1) (F2 : FnOk P w K mg base CX k f fd ps sp2) : FnOk P w K mg base CX k f fd ps (orSp sp1 sp2) := by
  refine ⟨fun vs H Q E h => h.elim (F1.len vs H Q E) (F2.len vs H Q E), fun A outer s H args us vs Q E hr e0 b r h => ?_⟩
  rcases h with h | h
  · exact F1.run A outer s H args us vs Q E hr e0 b r h
  · exact F2.run A outer s H args us vs Q E hr e0 b r h
end
end TG

namespace TG
open PySem PySem.Spec PyProof.Rows L2 NdefX GenW Gx Lv
/-! ### where a text ends: row, cell, place -/
def nxP (p : Nat × Nat × Nat) (x : Nat) : Nat × Nat × Nat := if x = 9 then (p.1, p.2.1 + 1, 0) else if x = 10 then (p.1 + 1, 0, 0) else (p.1, p.2.1, p.2.2 + 1)
def finP (p : Nat × Nat × Nat) (l : List Nat) : Nat × Nat × Nat := l.foldl nxP p
theorem fin_row : ∀ (l : List Nat) (r c k : Nat), finP (r + 1, c, k) l = ((finP (r, c, k) l).1 + 1, (finP (r, c, k) l).2)
  | [], _, _, _ => rfl
  | x :: l, r, c, k => by
    show finP (nxP (r + 1, c, k) x) l = ((finP (nxP (r, c, k) x) l).1 + 1, (finP (nxP (r, c, k) x) l).2)
    unfold nxP
    by_cases h9 : x = 9
    · rw [if_pos h9, if_pos h9]
      exact fin_row l r (c + 1) 0
    · rw [if_neg h9, if_neg h9]
      by_cases h10 : x = 10
      · rw [if_pos h10, if_pos h10]
        exact fin_row l (r + 1) 0 0
      · rw [if_neg h10, if_neg h10]
        exact fin_row l r c (k + 1)
theorem fin_go : ∀ (l : List Nat) (R : List (List Nat)) (C : List Nat), ∃ (g : List (List (List Nat))) (a : List (List Nat)) (b : List Nat), goR R C (l ++ [10]) = g ++ [a ++ [b]] ∧ finP (0, R.length, C.length) l = (g.length, a.length, b.length)
  | [], R, C => ⟨[], R, C, by show (R ++ [C]) :: goR [] [] [] = _; rfl, rfl⟩
  | x :: l, R, C => by
    by_cases h9 : x = 9
    · obtain ⟨g, a, b, e1, e2⟩ := fin_go l (R ++ [C]) []
      refine ⟨g, a, b, ?_, ?_⟩
      · show goR R C (x :: (l ++ [10])) = _
        unfold goR
        rw [if_pos h9]
        exact e1
      · show finP (nxP (0, R.length, C.length) x) l = _
        unfold nxP
        rw [if_pos h9, ← e2, List.length_append]
        rfl
    · by_cases h10 : x = 10
      · obtain ⟨g, a, b, e1, e2⟩ := fin_go l [] []
        refine ⟨(R ++ [C]) :: g, a, b, ?_, ?_⟩
        · show goR R C (x :: (l ++ [10])) = _
          unfold goR
          rw [if_neg h9, if_pos h10, e1]
          rfl
        · show finP (nxP (0, R.length, C.length) x) l = _
          unfold nxP
          rw [if_neg h9, if_pos h10]
          have := fin_row l 0 0 0
          have e2 : finP (0, 0, 0) l = (g.length, a.length, b.length) := e2
          rw [e2] at this
          exact this
      · obtain ⟨g, a, b, e1, e2⟩ := fin_go l R (C ++ [x])
        refine ⟨g, a, b, ?_, ?_⟩
        · show goR R C (x :: (l ++ [10])) = _
          unfold goR
          rw [if_neg h9, if_neg h10]
          exact e1
        · show finP (nxP (0, R.length, C.length) x) l = _
          unfold nxP
          rw [if_neg h9, if_neg h10, ← e2, List.length_append]
          rfl
/-- where a text ends, told of its rows -/
theorem at_fin (z : Str) : ((rowsT z).length - 1, ((rowsT z).getLast?.getD []).length - 1, (((rowsT z).getLast?.getD []).getLast?.getD "").length) = finP (0, 0, 0) (cl z) := by
  obtain ⟨g, a, b, e1, e2⟩ := fin_go (cl z) [] []
  rw [← rowsT_cl] at e1
  have e2 : finP (0, 0, 0) (cl z) = (g.length, a.length, b.length) := e2
  rw [e2]
  have l1 := congrArg List.length e1
  rw [List.length_map, List.length_append, List.length_singleton] at l1
  have g1 := congrArg List.getLast? e1
  rw [List.getLast?_map, List.getLast?_concat] at g1
  cases c : (rowsT z).getLast? with
  | none => rw [c] at g1; cases g1
  | some r =>
    rw [c] at g1
    have g1 : r.map cl = a ++ [b] := by simpa using g1
    have l2 := congrArg List.length g1
    rw [List.length_map, List.length_append, List.length_singleton] at l2
    have g2 := congrArg List.getLast? g1
    rw [List.getLast?_map, List.getLast?_concat] at g2
    cases d : r.getLast? with
    | none => rw [d] at g2; cases g2
    | some y =>
      rw [d] at g2
      have g2 : cl y = b := by simpa using g2
      show ((rowsT z).length - 1, r.length - 1, (r.getLast?.getD "").length) = _
      rw [d]
      show ((rowsT z).length - 1, r.length - 1, y.length) = _
      rw [l1, l2, len_cl, g2]
      rfl
end TG

namespace TG
open PySem PySem.Spec PyProof.Rows L2 NdefX GenW Gx Lv
/-! ### every place of a text, in turn -/
def posP : Nat × Nat × Nat → List Nat → List (Nat × Nat × Nat)
  | p, [] => [p]
  | p, x :: l => p :: posP (nxP p x) l
theorem posP_len : ∀ (l : List Nat) (p : Nat × Nat × Nat), (posP p l).length = l.length + 1
  | [], _ => rfl
  | _ :: l, _ => congrArg (· + 1) (posP_len l _)
theorem posP_get : ∀ (l : List Nat) (p : Nat × Nat × Nat) (i : Nat), i ≤ l.length → (posP p l)[i]? = some (finP p (l.take i))
  | [], p, i, h => by
    have : i = 0 := Nat.le_zero.mp h
    subst this
    rfl
  | x :: l, p, 0, _ => rfl
  | x :: l, p, i + 1, h => posP_get l (nxP p x) i (Nat.le_of_succ_le_succ h)
def cS (r c n : Nat) : List (Nat × Nat × Nat) := (List.range n).map fun k => (r, c, k)
def rS (r : Nat) : Nat → List (List Nat) → List (Nat × Nat × Nat)
  | _, [] => []
  | c, C :: cs => cS r c (C.length + 1) ++ rS r (c + 1) cs
def pS : Nat → List (List (List Nat)) → List (Nat × Nat × Nat)
  | _, [] => []
  | r, R :: rs => rS r 0 R ++ pS (r + 1) rs
theorem cS_succ (r c n : Nat) : cS r c (n + 1) = cS r c n ++ [(r, c, n)] := by
  unfold cS
  rw [List.range_succ, List.map_append]
  rfl
theorem rS_app (r : Nat) : ∀ (R : List (List Nat)) (c : Nat) (C : List Nat), rS r c (R ++ [C]) = rS r c R ++ cS r (c + R.length) (C.length + 1)
  | [], c, C => by
    show cS r c (C.length + 1) ++ [] = [] ++ cS r (c + 0) (C.length + 1)
    rw [List.append_nil, List.nil_append]
    rfl
  | D :: R, c, C => by
    show cS r c (D.length + 1) ++ rS r (c + 1) (R ++ [C]) = cS r c (D.length + 1) ++ rS r (c + 1) R ++ _
    rw [rS_app r R (c + 1) C, List.append_assoc]
    have e : c + 1 + R.length = c + (R.length + 1) := by omega
    rw [e]
    rfl
theorem pos_go : ∀ (l : List Nat) (r : Nat) (R : List (List Nat)) (C : List Nat), rS r 0 R ++ cS r R.length C.length ++ posP (r, R.length, C.length) l = pS r (goR R C (l ++ [10]))
  | [], r, R, C => by
    show _ ++ [(r, R.length, C.length)] = rS r 0 (R ++ [C]) ++ []
    rw [List.append_nil, rS_app, List.append_assoc, ← cS_succ, Nat.zero_add]
  | x :: l, r, R, C => by
    show rS r 0 R ++ cS r R.length C.length ++ ((r, R.length, C.length) :: posP (nxP (r, R.length, C.length) x) l) = pS r (goR R C (x :: (l ++ [10])))
    have e0 : ∀ t, rS r 0 R ++ cS r R.length C.length ++ ((r, R.length, C.length) :: t) = rS r 0 R ++ cS r R.length (C.length + 1) ++ t := fun t => by
      rw [cS_succ, List.append_assoc, List.append_assoc, List.append_assoc]
      rfl
    rw [e0]
    unfold goR nxP
    by_cases h9 : x = 9
    · rw [if_pos h9, if_pos h9, ← pos_go l r (R ++ [C]) [], rS_app, Nat.zero_add, List.length_append]
      show _ = _ ++ [] ++ _
      rw [List.append_nil]
      rfl
    · rw [if_neg h9, if_neg h9]
      by_cases h10 : x = 10
      · rw [if_pos h10, if_pos h10]
        show _ = rS r 0 (R ++ [C]) ++ pS (r + 1) (goR [] [] (l ++ [10]))
        rw [← pos_go l (r + 1) [] [], rS_app, Nat.zero_add]
        rfl
      · rw [if_neg h10, if_neg h10, ← pos_go l r R (C ++ [x]), List.length_append]
        rfl
theorem flat_cg {α β : Type} {l : List α} {f g : α → List β} (h : ∀ x ∈ l, f x = g x) : l.flatMap f = l.flatMap g := by
  rw [List.flatMap_def, List.flatMap_def, List.map_congr_left h]
theorem rS_flat (r : Nat) : ∀ (R : List (List Nat)) (c : Nat), rS r c R = (List.range R.length).flatMap fun i => cS r (c + i) ((R.getD i []).length + 1)
  | [], _ => rfl
  | C :: R, c => by
    show cS r c (C.length + 1) ++ rS r (c + 1) R = _
    rw [rS_flat r R (c + 1), List.length_cons, List.range_succ_eq_map, List.flatMap_cons, List.flatMap_map]
    congr 1
    refine flat_cg fun i _ => ?_
    have e : c + 1 + i = c + (i + 1) := by omega
    rw [e]
    rfl
theorem pS_flat : ∀ (rs : List (List (List Nat))) (r : Nat), pS r rs = (List.range rs.length).flatMap fun i => rS (r + i) 0 (rs.getD i [])
  | [], _ => rfl
  | R :: rs, r => by
    show rS r 0 R ++ pS (r + 1) rs = _
    rw [pS_flat rs (r + 1), List.length_cons, List.range_succ_eq_map, List.flatMap_cons, List.flatMap_map]
    congr 1
    refine flat_cg fun i _ => ?_
    have e : r + 1 + i = r + (i + 1) := by omega
    rw [e]
    rfl
/-- the places of a page, as the cursor's side tells them -/
theorem page_pS (rows : List (List Str)) : TGK.pageSp rows = pS 0 (rows.map (List.map cl)) := by
  rw [pS_flat, List.length_map]
  unfold TGK.pageSp
  refine flat_cg fun i hi => ?_
  have hi := List.mem_range.mp hi
  have e1 : (rows.map (List.map cl)).getD i [] = (rows.getD i []).map cl := by
    rw [List.getD_eq_getElem?_getD, List.getElem?_map, List.getD_eq_getElem?_getD, List.getElem?_eq_getElem hi]
    rfl
  rw [e1, rS_flat, List.length_map, Nat.zero_add]
  unfold TGK.rowSp
  rw [List.map_flatMap]
  refine flat_cg fun c hc => ?_
  have hc := List.mem_range.mp hc
  have e2 : ((rows.getD i []).map cl).getD c [] = cl ((rows.getD i []).getD c nilS) := by
    rw [List.getD_eq_getElem?_getD, List.getElem?_map, List.getD_eq_getElem?_getD (l := rows.getD i []), List.getElem?_eq_getElem hc]
    rfl
  rw [e2, Nat.zero_add, List.map_map, len_cl]
  rfl
/-- ... in a text: the i-th is where its first i signs end -/
theorem page_get {z : Str} {i : Nat} (h : i ≤ (cl z).length) : (TGK.pageSp (rowsT z))[i]? = some (finP (0, 0, 0) ((cl z).take i)) := by
  rw [page_pS, rowsT_cl, ← pos_go (cl z) 0 [] []]
  exact posP_get (cl z) (0, 0, 0) i h
theorem page_len (z : Str) : (TGK.pageSp (rowsT z)).length = z.length + 1 := by
  rw [page_pS, rowsT_cl, ← pos_go (cl z) 0 [] [], len_cl]
  exact posP_len (cl z) (0, 0, 0)
end TG

namespace TG
open PySem PySem.Spec PyProof.Rows L2 NdefX GenW Gx Lv
/-! ### the rows of a text, about one of its places -/
theorem go_pre : ∀ (A : List Nat) (R : List (List Nat)) (C : List Nat), ∃ (g : List (List (List Nat))) (a : List (List Nat)) (b : List Nat), (∀ t, goR R C (A ++ t) = g ++ goR a b t) ∧ finP (0, R.length, C.length) A = (g.length, a.length, b.length)
  | [], R, C => ⟨[], R, C, fun _ => rfl, rfl⟩
  | x :: A, R, C => by
    have e : ∀ t, goR R C (x :: A ++ t) = if x = 9 then goR (R ++ [C]) [] (A ++ t) else if x = 10 then (R ++ [C]) :: goR [] [] (A ++ t) else goR R (C ++ [x]) (A ++ t) := fun t => rfl
    have f : finP (0, R.length, C.length) (x :: A) = finP (nxP (0, R.length, C.length) x) A := rfl
    unfold nxP at f
    by_cases h9 : x = 9
    · obtain ⟨g, a, b, e1, e2⟩ := go_pre A (R ++ [C]) []
      refine ⟨g, a, b, fun t => by rw [e, if_pos h9]; exact e1 t, ?_⟩
      rw [f, if_pos h9, ← e2, List.length_append]
      rfl
    · by_cases h10 : x = 10
      · obtain ⟨g, a, b, e1, e2⟩ := go_pre A [] []
        refine ⟨(R ++ [C]) :: g, a, b, fun t => by rw [e, if_neg h9, if_pos h10, e1 t]; rfl, ?_⟩
        rw [f, if_neg h9, if_pos h10]
        have e2 : finP (0, 0, 0) A = (g.length, a.length, b.length) := e2
        have := fin_row A 0 0 0
        rw [e2] at this
        exact this
      · obtain ⟨g, a, b, e1, e2⟩ := go_pre A R (C ++ [x])
        refine ⟨g, a, b, fun t => by rw [e, if_neg h9, if_neg h10]; exact e1 t, ?_⟩
        rw [f, if_neg h9, if_neg h10, ← e2, List.length_append]
        rfl
theorem go_head : ∀ (B : List Nat), ∃ (b' : List Nat) (cs : List (List Nat)) (rs : List (List (List Nat))), ∀ (a : List (List Nat)) (b : List Nat), goR a b (B ++ [10]) = (a ++ (b ++ b') :: cs) :: rs
  | [] => ⟨[], [], [], fun a b => by
    show (a ++ [b]) :: [] = _
    rw [List.append_nil]⟩
  | x :: B => by
    have e : ∀ a b, goR a b (x :: B ++ [10]) = if x = 9 then goR (a ++ [b]) [] (B ++ [10]) else if x = 10 then (a ++ [b]) :: goR [] [] (B ++ [10]) else goR a (b ++ [x]) (B ++ [10]) := fun a b => rfl
    obtain ⟨b', cs, rs, h⟩ := go_head B
    by_cases h9 : x = 9
    · refine ⟨[], b' :: cs, rs, fun a b => ?_⟩
      rw [e, if_pos h9, h, List.append_nil, List.append_assoc]
      rfl
    · by_cases h10 : x = 10
      · refine ⟨[], [], goR [] [] (B ++ [10]), fun a b => ?_⟩
        rw [e, if_neg h9, if_pos h10, List.append_nil]
      · refine ⟨x :: b', cs, rs, fun a b => ?_⟩
        rw [e, if_neg h9, if_neg h10, h, List.append_assoc]
        rfl
/-- a text at its i-th place: the rows, where it is, and the rows with a sign laid in there -/
theorem ins_shape {z : Str} {i : Nat} : ∃ (g : List (List (List Nat))) (a : List (List Nat)) (b b' : List Nat) (cs : List (List Nat)) (rs : List (List (List Nat))),
    (rowsT z).map (List.map cl) = g ++ (a ++ (b ++ b') :: cs) :: rs ∧ finP (0, 0, 0) ((cl z).take i) = (g.length, a.length, b.length) ∧
    ∀ (y : Str) (x : Nat), cl y = (cl z).take i ++ x :: (cl z).drop i → (rowsT y).map (List.map cl) = if x = 9 then g ++ (a ++ b :: b' :: cs) :: rs else if x = 10 then g ++ (a ++ [b]) :: (b' :: cs) :: rs else g ++ (a ++ (b ++ x :: b') :: cs) :: rs := by
  obtain ⟨g, a, b, e1, e2⟩ := go_pre ((cl z).take i) [] []
  obtain ⟨b', cs, rs, h⟩ := go_head ((cl z).drop i)
  refine ⟨g, a, b, b', cs, rs, ?_, e2, fun y x hy => ?_⟩
  · rw [rowsT_cl]
    have := e1 ((cl z).drop i ++ [10])
    rw [← List.append_assoc, List.take_append_drop, h] at this
    exact this
  · rw [rowsT_cl, hy, List.append_assoc, e1]
    show g ++ (if x = 9 then goR (a ++ [b]) [] ((cl z).drop i ++ [10]) else if x = 10 then (a ++ [b]) :: goR [] [] ((cl z).drop i ++ [10]) else goR a (b ++ [x]) ((cl z).drop i ++ [10])) = _
    split
    · rw [h, List.append_assoc]
      rfl
    · split
      · rw [h]
        rfl
      · rw [h, List.append_assoc]
        rfl
end TG

namespace TG
open PySem PySem.Spec PyProof.Rows L2 NdefX GenW Gx Lv
/-! ### what the cursor's side lays, told of codes -/
section
variable {row : List Str} {a cs : List (List Nat)} {b b' : List Nat}
theorem cell_cl (h : row.map cl = a ++ (b ++ b') :: cs) : cl (row.getD a.length nilS) = b ++ b' := by
  have e := congrArg (fun l => l[a.length]?) h
  simp only [List.getElem?_map] at e
  rw [List.getElem?_append_right (Nat.le_refl _), Nat.sub_self, List.getElem?_cons_zero] at e
  cases c : row[a.length]? with
  | none => rw [c] at e; cases e
  | some z =>
    rw [c] at e
    rw [List.getD_eq_getElem?_getD, c]
    exact Option.some.inj e
theorem take_cl (h : row.map cl = a ++ (b ++ b') :: cs) : (row.take a.length).map cl = a := by rw [List.map_take, h, List.take_left]
theorem drop_cl (h : row.map cl = a ++ (b ++ b') :: cs) : (row.drop (a.length + 1)).map cl = cs := by
  rw [List.map_drop, h, List.drop_append, List.drop_eq_nil_of_le (by omega), List.nil_append]
  have e : a.length + 1 - a.length = 1 := by omega
  rw [e]
  rfl
end
theorem splice_cl {rows new : List (List Str)} {g : List (List (List Nat))} {r0 : List (List Nat)} {rs : List (List (List Nat))} (h : rows.map (List.map cl) = g ++ r0 :: rs) : (TGK.splice rows g.length 1 new).map (List.map cl) = g ++ new.map (List.map cl) ++ rs := by
  unfold TGK.splice
  rw [List.map_append, List.map_append, List.map_take, List.map_drop, h, List.take_left, List.drop_append, List.drop_eq_nil_of_le (by omega), List.nil_append]
  have e : g.length + 1 - g.length = 1 := by omega
  rw [e]
  rfl
end TG

namespace TG
open PySem PySem.Spec PyProof.Rows L2 NdefX GenW Gx Lv
theorem str_of {a b : Str} (h : cl a = cl b) : a = b := by
  obtain ⟨⟨a⟩⟩ := a
  obtain ⟨⟨b⟩⟩ := b
  have : a = b := h
  rw [this]
theorem map_cl_inj : ∀ {a b : List (List Str)}, a.map (List.map cl) = b.map (List.map cl) → a = b := by
  have h1 : ∀ {a b : List Str}, a.map cl = b.map cl → a = b := by
    intro a
    induction a with
    | nil => intro b h; cases b with
      | nil => rfl
      | cons y b => cases h
    | cons x a ih => intro b h; cases b with
      | nil => cases h
      | cons y b =>
        rw [List.map_cons, List.map_cons] at h
        injection h with h1 h2
        rw [str_of h1, ih h2]
  intro a
  induction a with
  | nil => intro b h; cases b with
    | nil => rfl
    | cons y b => cases h
  | cons x a ih => intro b h; cases b with
    | nil => cases h
    | cons y b =>
      rw [List.map_cons, List.map_cons] at h
      injection h with e1 e2
      rw [h1 e1, ih e2]
section
variable {row : List Str} {a cs : List (List Nat)} {b b' : List Nat}
theorem halvA_cl (h : row.map cl = a ++ (b ++ b') :: cs) : (TGK.halvA row a.length b.length).map cl = a ++ [b] := by
  unfold TGK.halvA
  rw [List.map_append, take_cl h]
  show a ++ [cl (TGK.zT (row.getD a.length nilS) b.length)] = _
  rw [TGK.cl_zT, cell_cl h, List.take_left]
theorem halvB_cl (h : row.map cl = a ++ (b ++ b') :: cs) : (TGK.halvB row a.length b.length).map cl = b' :: cs := by
  unfold TGK.halvB
  rw [List.map_cons, drop_cl h, TGK.cl_zD, cell_cl h, List.drop_left]
theorem sign_cl {s : Str} {x : Nat} (hs : cl s = [x]) (h : row.map cl = a ++ (b ++ b') :: cs) (n : s ≠ TGK.tabS) : (TGK.joinR (TGK.joinR (TGK.halvA row a.length b.length) [s]) (TGK.halvB row a.length b.length)).map cl = a ++ (b ++ x :: b') :: cs := by
  have e := TGK.cells_sign (r := row) (c := a.length) (k := b.length) n
  unfold TGK.cellsR at e
  dsimp only at e
  rw [if_neg n] at e
  rw [Option.some.inj e, List.map_append, List.map_append, take_cl h, drop_cl h]
  show a ++ [cl (TGK.zT (row.getD a.length nilS) b.length ++ s ++ TGK.zD (row.getD a.length nilS) b.length)] ++ cs = _
  rw [cl_app, cl_app, hs, TGK.cl_zT, TGK.cl_zD, cell_cl h, List.take_left, List.drop_left, List.append_assoc, List.append_assoc]
  rfl
end
theorem row_cl {rows : List (List Str)} {g : List (List (List Nat))} {r0 : List (List Nat)} {rs : List (List (List Nat))} (h : rows.map (List.map cl) = g ++ r0 :: rs) : (rows.getD g.length []).map cl = r0 := by
  have e := congrArg (fun l => l[g.length]?) h
  simp only [List.getElem?_map] at e
  rw [List.getElem?_append_right (Nat.le_refl _), Nat.sub_self, List.getElem?_cons_zero] at e
  cases c : rows[g.length]? with
  | none => rw [c] at e; cases e
  | some z =>
    rw [c] at e
    rw [List.getD_eq_getElem?_getD, c]
    exact Option.some.inj e
/-- a sign pressed at a text's i-th place: what the cursor's side lays are the rows of the text with it -/
theorem press_cut {z y s : Str} {i x : Nat} (hs : cl s = [x]) (hy : cl y = (cl z).take i ++ x :: (cl z).drop i) : ∃ n m new, TGK.cutD (rowsT z) (TGK.pressD (finP (0, 0, 0) ((cl z).take i)) s) = some (n, m, new) ∧ rowsT y = TGK.splice (rowsT z) n m new ∧ n + m ≤ (rowsT z).length := by
  obtain ⟨g, a, b, b', cs, rs, h1, h2, h3⟩ := ins_shape (z := z) (i := i)
  have h3 := h3 y x hy
  have hn : g.length + 1 ≤ (rowsT z).length := by
    have e := congrArg List.length h1
    rw [List.length_map, List.length_append, List.length_cons] at e
    omega
  have hr := row_cl h1
  rw [h2]
  have e9 : cl TGK.tabS = [9] := by decide +kernel
  have e10 : cl TGK.lineS = [10] := by decide +kernel
  unfold TGK.pressD
  by_cases cL : s = TGK.lineS
  · have hx : x = 10 := by rw [cL, e10] at hs; injection hs with hs; exact hs.symm
    rw [if_pos cL]
    refine ⟨_, _, _, rfl, map_cl_inj ?_, hn⟩
    rw [h3, if_neg (by omega), if_pos hx, splice_cl h1]
    show _ = g ++ [(TGK.halvA _ _ _).map cl, (TGK.halvB _ _ _).map cl] ++ rs
    rw [halvA_cl hr, halvB_cl hr, List.append_assoc]
    rfl
  · rw [if_neg cL]
    have x10 : x ≠ 10 := fun e => cL (str_of (by rw [hs, e10, e]))
    refine ⟨_, _, _, rfl, map_cl_inj ?_, hn⟩
    rw [h3, splice_cl h1]
    by_cases cT : s = TGK.tabS
    · have hx : x = 9 := by rw [cT, e9] at hs; injection hs with hs; exact hs.symm
      rw [if_pos hx, if_pos cT]
      show _ = g ++ [(TGK.halvA _ _ _ ++ TGK.halvB _ _ _).map cl] ++ rs
      rw [List.map_append, halvA_cl hr, halvB_cl hr, List.append_assoc, List.append_assoc]
      rfl
    · have x9 : x ≠ 9 := fun e => cT (str_of (by rw [hs, e9, e]))
      rw [if_neg x9, if_neg x10, if_neg cT]
      show _ = g ++ [(TGK.joinR _ _).map cl] ++ rs
      rw [sign_cl hs hr cT, List.append_assoc]
      rfl
end TG

namespace TG
open PySem PySem.Spec PyProof.Rows L2 NdefX GenW Gx Lv
theorem fitK_ok {r : List Str} (h : RowOk r) : TGK.fitR r = true := by
  unfold TGK.fitR
  rw [decide_eq_true ⟨h.pos, h.len⟩, Bool.true_and, List.all_eq_true]
  exact fun z hz => decide_eq_true (h.cells z hz).len
/-- a deed that lays the rows of another text: refused where those are no page, and there alone -/
theorem cut_done {z y : Str} {d : TGK.Deed} {n m : Nat} {new : List (List Str)} (hO : PgOk (rowsT z)) (ty : TxtSg y) (c : TGK.cutD (rowsT z) d = some (n, m, new)) (e : rowsT y = TGK.splice (rowsT z) n m new) (hn : n + m ≤ (rowsT z).length) : (PgOk (rowsT y) → TGK.doneR (rowsT z) d = some (rowsT y)) ∧ (¬ PgOk (rowsT y) → TGK.doneR (rowsT z) d = none) := by
  have sl := TGK.splice_len (new := new) hn
  rw [← e] at sl
  have ed : TGK.doneR (rowsT z) d = if TGK.fitsR (((rowsT z).length : Nat) - (m : Nat) + (new.length : Nat)) new = true then some (rowsT y) else none := by
    unfold TGK.doneR
    rw [c, e]
    rfl
  have key : TGK.fitsR (((rowsT z).length : Nat) - (m : Nat) + (new.length : Nat)) new = true ↔ PgOk (rowsT y) := by
    unfold TGK.fitsR
    rw [Bool.and_eq_true, decide_eq_true_iff, List.all_eq_true]
    constructor
    · rintro ⟨⟨f1, f2⟩, f3⟩
      refine good_pg ty ⟨by omega, fun r hr => ?_⟩
      have fin : ∀ r, TGK.fitR r = true → fitR r = true := fun r h => by
        unfold TGK.fitR at h
        rw [Bool.and_eq_true, decide_eq_true_iff] at h
        unfold fitR
        rw [h.2, Bool.and_true]
        exact decide_eq_true h.1.2
      rw [e] at hr
      unfold TGK.splice at hr
      rcases List.mem_append.mp hr with h | h
      · rcases List.mem_append.mp h with h | h
        · exact fin r (fitK_ok (hO.rows r (List.mem_of_mem_take h)))
        · exact fin r (f3 r h)
      · exact fin r (fitK_ok (hO.rows r (List.mem_of_mem_drop h)))
    · intro g
      refine ⟨⟨by have := g.pos; omega, by have := g.len; omega⟩, fun r hr => fitK_ok (g.rows r ?_)⟩
      rw [e]
      exact List.mem_append_left _ (List.mem_append_right _ hr)
  refine ⟨fun g => by rw [ed, if_pos (key.mpr g)], fun g => by rw [ed, if_neg fun z => g (key.mp z)]⟩
/-- a sign pressed: refused where the text with it is no page, and there alone -/
theorem press_done {z y s : Str} {i x : Nat} (hO : PgOk (rowsT z)) (ty : TxtSg y) (hs : cl s = [x]) (hy : cl y = (cl z).take i ++ x :: (cl z).drop i) : (PgOk (rowsT y) → TGK.doneR (rowsT z) (TGK.pressD (finP (0, 0, 0) ((cl z).take i)) s) = some (rowsT y)) ∧ (¬ PgOk (rowsT y) → TGK.doneR (rowsT z) (TGK.pressD (finP (0, 0, 0) ((cl z).take i)) s) = none) := by
  obtain ⟨n, m, new, c, e, hn⟩ := press_cut hs hy
  exact cut_done hO ty c e hn
end TG

namespace TG
open PySem PySem.Spec PyProof.Rows L2 NdefX GenW Gx Lv
theorem next_fin {p : Nat × Nat × Nat} {s : Str} {x : Nat} (hs : cl s = [x]) : TGK.nextP p s = nxP p x := by
  have e9 : cl TGK.tabS = [9] := by decide +kernel
  have e10 : cl TGK.lineS = [10] := by decide +kernel
  unfold TGK.nextP nxP
  by_cases cL : s = TGK.lineS
  · have hx : x = 10 := by rw [cL, e10] at hs; injection hs with hs; exact hs.symm
    rw [if_pos cL, if_neg (by omega), if_pos hx]
  · have x10 : x ≠ 10 := fun e => cL (str_of (by rw [hs, e10, e]))
    rw [if_neg cL]
    by_cases cT : s = TGK.tabS
    · have hx : x = 9 := by rw [cT, e9] at hs; injection hs with hs; exact hs.symm
      rw [if_pos cT, if_pos hx]
    · have x9 : x ≠ 9 := fun e => cT (str_of (by rw [hs, e9, e]))
      rw [if_neg cT, if_neg x9, if_neg x10]
/-- behind a sign laid in at the i-th place -/
theorem fin_next {z y s : Str} {i x : Nat} (hi : i ≤ (cl z).length) (hs : cl s = [x]) (hy : cl y = (cl z).take i ++ x :: (cl z).drop i) : finP (0, 0, 0) ((cl y).take (i + 1)) = TGK.nextP (finP (0, 0, 0) ((cl z).take i)) s := by
  have l : ((cl z).take i).length = i := by rw [List.length_take]; omega
  have e : (cl y).take (i + 1) = (cl z).take i ++ [x] := by
    rw [hy, List.take_append, List.take_of_length_le (by omega), l]
    have e1 : i + 1 - i = 1 := by omega
    rw [e1]
    rfl
  rw [e, next_fin hs]
  unfold finP
  rw [List.foldl_append]
  rfl
end TG

namespace TG
open PySem PySem.Spec PyProof.Rows L2 NdefX GenW Gx Lv
/-! ### left and right: along the places -/
theorem beside_fin {z : Str} {i : Nat} (hi : i ≤ (cl z).length) (k : Int) : TGK.besideR (rowsT z) (finP (0, 0, 0) ((cl z).take i)) k = if 0 ≤ (i : Int) + k ∧ (i : Int) + k ≤ ((cl z).length : Nat) then some (finP (0, 0, 0) ((cl z).take ((i : Int) + k).toNat)) else none := by
  unfold TGK.besideR
  rw [TGK.idx_of (TGK.pageSp_nd _) (page_get hi), page_len, len_cl]
  dsimp only
  by_cases c : 0 ≤ (i : Int) + k ∧ (i : Int) + k ≤ ((cl z).length : Nat)
  · rw [if_pos c, if_pos ⟨c.1, by omega⟩]
    exact page_get (by omega)
  · rw [if_neg c, if_neg fun q => c ⟨q.1, by omega⟩]
end TG

namespace TG
open PySem PySem.Spec PyProof.Rows L2 NdefX GenW Gx Lv
/-! ### rubbed: the sign ahead taken out -/
theorem joinR_cl {A B : List Str} {a cs : List (List Nat)} {b b' : List Nat} (hA : A.map cl = a ++ [b]) (hB : B.map cl = b' :: cs) : (TGK.joinR A B).map cl = a ++ (b ++ b') :: cs := by
  unfold TGK.joinR
  have e1 : A.dropLast.map cl = a := by rw [List.map_dropLast, hA, List.dropLast_concat]
  have e2 : cl (A.getLast?.getD nilS) = b := by
    have g := congrArg List.getLast? hA
    rw [List.getLast?_map, List.getLast?_concat] at g
    cases c : A.getLast? with
    | none => rw [c] at g; cases g
    | some z => rw [c] at g; exact Option.some.inj g
  match B, hB with
  | z :: B, hB =>
    have h1 : cl z = b' := by injection hB
    have h2 : B.map cl = cs := by injection hB
    show (A.dropLast ++ (A.getLast?.getD nilS ++ z) :: B).map cl = _
    rw [List.map_append, List.map_cons, e1, h2, cl_app, e2, h1]
theorem nil_cl {z : Str} : cl z = [] ↔ z = nilS := ⟨fun h => str_of (by rw [h]), fun h => by rw [h]⟩
theorem splice_cl2 {rows new : List (List Str)} {g : List (List (List Nat))} {r0 r1 : List (List Nat)} {rs : List (List (List Nat))} (h : rows.map (List.map cl) = g ++ r0 :: r1 :: rs) : (TGK.splice rows g.length 2 new).map (List.map cl) = g ++ new.map (List.map cl) ++ rs := by
  unfold TGK.splice
  rw [List.map_append, List.map_append, List.map_take, List.map_drop, h, List.take_left, List.drop_append, List.drop_eq_nil_of_le (by omega), List.nil_append]
  have e : g.length + 2 - g.length = 2 := by omega
  rw [e]
  rfl
/-- what is rubbed out ahead of a place: the cursor's side lays the rows of the text without it -/
theorem rub_cut {z y s : Str} {i x : Nat} (hi : i ≤ (cl y).length) (hs : cl s = [x]) (hz : cl z = (cl y).take i ++ x :: (cl y).drop i) : ∃ n m new, TGK.cutD (rowsT z) (TGK.rubD (finP (0, 0, 0) ((cl z).take (i + 1))) (finP (0, 0, 0) ((cl z).take i))) = some (n, m, new) ∧ rowsT y = TGK.splice (rowsT z) n m new ∧ n + m ≤ (rowsT z).length := by
  obtain ⟨g, a, b, b', cs, rs, h1, h2, h3⟩ := ins_shape (z := y) (i := i)
  have h3 := h3 z x hz
  have l : ((cl y).take i).length = i := by rw [List.length_take]; omega
  have ez : (cl z).take i = (cl y).take i := by rw [hz, List.take_append, List.take_of_length_le (by omega), l, Nat.sub_self, List.take_zero, List.append_nil]
  rw [fin_next hi hs hz, ez, h2, next_fin hs]
  unfold nxP TGK.rubD
  by_cases h9 : x = 9
  · rw [if_pos h9] at h3
    rw [if_pos h9, if_neg (by show ¬ g.length < g.length; omega)]
    have h3' : (rowsT z).map (List.map cl) = g ++ (a ++ (b ++ []) :: b' :: cs) :: rs := by rw [h3, List.append_nil]
    have hr := row_cl h3'
    have hB := halvB_cl hr
    have hA := halvA_cl hr
    have hn : g.length + 1 ≤ (rowsT z).length := by
      have e := congrArg List.length h3
      rw [List.length_map, List.length_append, List.length_cons] at e
      omega
    have hl : TGK.lessR (TGK.halvB ((rowsT z).getD g.length []) a.length b.length) = some (TGK.halvB ((rowsT z).getD g.length []) a.length b.length).tail := by
      generalize TGK.halvB ((rowsT z).getD g.length []) a.length b.length = w at hB
      match w, hB with
      | q :: r :: w, hB =>
        have hq : cl q = [] := by injection hB
        have hq := nil_cl.mp hq
        unfold TGK.lessR
        rw [if_neg (by show ¬ q ≠ nilS; rw [hq]; simp), if_neg (by simp)]
      | [q], hB => simp at hB
    refine ⟨g.length, 1, [TGK.joinR (TGK.halvA ((rowsT z).getD g.length []) a.length b.length) (TGK.halvB ((rowsT z).getD g.length []) a.length b.length).tail], ?_, map_cl_inj ?_, hn⟩
    · show (TGK.lessR (TGK.halvB ((rowsT z).getD g.length []) a.length b.length)).map _ = _
      rw [hl]
      rfl
    · rw [h1, splice_cl h3]
      show _ = g ++ [(TGK.joinR _ _).map cl] ++ rs
      rw [joinR_cl hA (by rw [List.map_tail, hB]; rfl), List.append_assoc]
      rfl
  · rw [if_neg h9] at h3
    rw [if_neg h9]
    by_cases h10 : x = 10
    · rw [if_pos h10] at h3
      rw [if_pos h10, if_pos (by show g.length < g.length + 1; omega)]
      have hA := row_cl h3
      have h3' : (rowsT z).map (List.map cl) = (g ++ [a ++ [b]]) ++ (b' :: cs) :: rs := by rw [h3, List.append_assoc]; rfl
      have hB := row_cl h3'
      rw [List.length_append, List.length_singleton] at hB
      have hn : g.length + 2 ≤ (rowsT z).length := by
        have e := congrArg List.length h3
        rw [List.length_map, List.length_append, List.length_cons, List.length_cons] at e
        omega
      refine ⟨g.length, 2, [TGK.joinR ((rowsT z).getD g.length []) ((rowsT z).getD (g.length + 1) [])], ?_, map_cl_inj ?_, hn⟩
      · show (if g.length + 1 < (rowsT z).length then _ else _) = _
        rw [if_pos (by omega)]
      · rw [h1, splice_cl2 h3]
        show _ = g ++ [(TGK.joinR _ _).map cl] ++ rs
        rw [joinR_cl hA hB, List.append_assoc]
        rfl
    · rw [if_neg h10] at h3
      rw [if_neg h10, if_neg (by show ¬ g.length < g.length; omega)]
      have hr := row_cl h3
      have hB := halvB_cl hr
      have hA := halvA_cl hr
      have hn : g.length + 1 ≤ (rowsT z).length := by
        have e := congrArg List.length h3
        rw [List.length_map, List.length_append, List.length_cons] at e
        omega
      obtain ⟨w, hl, hw⟩ : ∃ w, TGK.lessR (TGK.halvB ((rowsT z).getD g.length []) a.length b.length) = some w ∧ w.map cl = b' :: cs := by
        generalize TGK.halvB ((rowsT z).getD g.length []) a.length b.length = w at hB
        match w, hB with
        | q :: w, hB =>
          have hq : cl q = x :: b' := by injection hB
          have h2 : w.map cl = cs := by injection hB
          have nq : q ≠ nilS := fun e => by rw [nil_cl.mpr e] at hq; cases hq
          refine ⟨TGK.zD q 1 :: w, ?_, ?_⟩
          · unfold TGK.lessR
            rw [if_pos (by show q ≠ nilS; exact nq)]
            rfl
          · rw [List.map_cons, TGK.cl_zD, hq, h2]
            rfl
      refine ⟨g.length, 1, [TGK.joinR (TGK.halvA ((rowsT z).getD g.length []) a.length b.length) w], ?_, map_cl_inj ?_, hn⟩
      · show (TGK.lessR (TGK.halvB ((rowsT z).getD g.length []) a.length b.length)).map _ = _
        rw [hl]
        rfl
      · rw [h1, splice_cl h3]
        show _ = g ++ [(TGK.joinR _ _).map cl] ++ rs
        rw [joinR_cl hA hw, List.append_assoc]
        rfl
/-- a sign rubbed out: refused where the text without it is no page, and there alone -/
theorem rub_done {z y s : Str} {i x : Nat} (hO : PgOk (rowsT z)) (ty : TxtSg y) (hi : i ≤ (cl y).length) (hs : cl s = [x]) (hz : cl z = (cl y).take i ++ x :: (cl y).drop i) : (PgOk (rowsT y) → TGK.doneR (rowsT z) (TGK.rubD (finP (0, 0, 0) ((cl z).take (i + 1))) (finP (0, 0, 0) ((cl z).take i))) = some (rowsT y)) ∧ (¬ PgOk (rowsT y) → TGK.doneR (rowsT z) (TGK.rubD (finP (0, 0, 0) ((cl z).take (i + 1))) (finP (0, 0, 0) ((cl z).take i))) = none) := by
  obtain ⟨n, m, new, c, e, hn⟩ := rub_cut hi hs hz
  exact cut_done hO ty c e hn
end TG

namespace TGK
open TG
open PySem PySem.Spec PyProof.Rows L2 Gx EnT
/-! ### pages told cell by cell -/
def mkP (N : Nat) (m : Nat → Nat) (t : Nat → Nat → Str) : List (List Str) := (List.range N).map fun i => (List.range (m i)).map fun c => t i c
section
variable {N i c k x : Nat} {m m' : Nat → Nat} {t t' : Nat → Nat → Str} {y z : Str}
theorem mkP_len : (mkP N m t).length = N := by unfold mkP; rw [List.length_map, List.length_range]
theorem mkP_get (h : i < N) : (mkP N m t)[i]? = some ((List.range (m i)).map fun c => t i c) := by unfold mkP; rw [List.getElem?_map, List.getElem?_range h]; rfl
theorem mkP_row (h : i < N) : rowN (mkP N m t) i = (List.range (m i)).map fun c => t i c := getD_of (mkP_get h)
theorem mkP_rlen (h : i < N) : (rowN (mkP N m t) i).length = m i := by rw [mkP_row h, List.length_map, List.length_range]
theorem mkP_cell (h : i < N) (hc : c < m i) : (rowN (mkP N m t) i).getD c nilS = t i c := by
  rw [mkP_row h]
  refine getD_of ?_
  rw [List.getElem?_map, List.getElem?_range hc]
  rfl
theorem mkP_cong (h1 : ∀ i, i < N → m i = m' i) (h2 : ∀ i, i < N → ∀ c, c < m i → t i c = t' i c) : mkP N m t = mkP N m' t' := by
  unfold mkP
  refine List.map_congr_left fun i hi => ?_
  have hi := List.mem_range.mp hi
  rw [← h1 i hi]
  exact List.map_congr_left fun c hc => h2 i hi c (List.mem_range.mp hc)
theorem mkP_ok (h1 : 1 ≤ N) (h2 : N ≤ 30) (h3 : ∀ i, i < N → 1 ≤ m i ∧ m i ≤ 6) (h4 : ∀ i, i < N → ∀ c, c < m i → CellOk (t i c)) : PgOk (mkP N m t) := by
  refine ⟨by rw [mkP_len]; exact h1, by rw [mkP_len]; exact h2, fun r hr => ?_⟩
  unfold mkP at hr
  obtain ⟨i, hi, rfl⟩ := List.mem_map.mp hr
  have hi := List.mem_range.mp hi
  have e : ((List.range (m i)).map fun c => t i c).length = m i := by rw [List.length_map, List.length_range]
  refine ⟨by rw [e]; exact (h3 i hi).1, by rw [e]; exact (h3 i hi).2, fun z hz => ?_⟩
  obtain ⟨c, hc, rfl⟩ := List.mem_map.mp hz
  exact h4 i hi c (List.mem_range.mp hc)
theorem mkP_of (rows : List (List Str)) : mkP rows.length (fun i => (rowN rows i).length) (fun i c => (rowN rows i).getD c nilS) = rows := by
  refine List.ext_getElem? fun i => ?_
  by_cases h : i < rows.length
  · rw [mkP_get h, rowN_get h]
    congr 1
    refine List.ext_getElem? fun c => ?_
    by_cases hc : c < (rowN rows i).length
    · rw [List.getElem?_map, List.getElem?_range hc, List.getElem?_eq_getElem hc]
      show some ((rowN rows i).getD c nilS) = _
      rw [List.getD_eq_getElem?_getD, List.getElem?_eq_getElem hc]
      rfl
    · rw [List.getElem?_eq_none (by rw [List.length_map, List.length_range]; omega), List.getElem?_eq_none (by omega)]
  · rw [List.getElem?_eq_none (by rw [mkP_len]; omega), List.getElem?_eq_none (by omega)]
theorem splice_mk {r : List Str} (hi : i < N) (hr : r = (List.range (m' i)).map fun c => t' i c) (h1 : ∀ j, j < N → j ≠ i → m' j = m j) (h2 : ∀ j, j < N → j ≠ i → ∀ c, c < m j → t' j c = t j c) : splice (mkP N m t) i 1 [r] = mkP N m' t' := by
  have e : splice (mkP N m t) i 1 [r] = (mkP N m t).set i r := by
    unfold splice
    rw [List.set_eq_take_append_cons_drop, if_pos (by rw [mkP_len]; exact hi), List.append_assoc]
    rfl
  rw [e]
  refine List.ext_getElem? fun j => ?_
  by_cases hj : j < N
  · rw [mkP_get hj]
    by_cases c : i = j
    · subst c
      rw [List.getElem?_set_self (by rw [mkP_len]; exact hi), hr]
    · rw [List.getElem?_set_ne c, mkP_get hj, h1 j hj fun e => c e.symm]
      congr 1
      exact List.map_congr_left fun q hq => (h2 j hj (fun e => c e.symm) q (List.mem_range.mp hq)).symm
  · rw [List.getElem?_eq_none (by rw [List.length_set, mkP_len]; omega), List.getElem?_eq_none (by rw [mkP_len]; omega)]
theorem row_put {n c : Nat} {f : Nat → Str} {y : Str} (hc : c < n) : ((List.range n).map f).take c ++ [y] ++ ((List.range n).map f).drop (c + 1) = (List.range n).map fun q => if q = c then y else f q := by
  have e : ((List.range n).map f).take c ++ [y] ++ ((List.range n).map f).drop (c + 1) = ((List.range n).map f).set c y := by
    rw [List.set_eq_take_append_cons_drop, if_pos (by rw [List.length_map, List.length_range]; exact hc), List.append_assoc]
    rfl
  rw [e]
  refine List.ext_getElem? fun j => ?_
  by_cases hj : j < n
  · rw [List.getElem?_map, List.getElem?_range hj]
    by_cases q : c = j
    · subst q
      rw [List.getElem?_set_self (by rw [List.length_map, List.length_range]; exact hc)]
      simp
    · rw [List.getElem?_set_ne q, List.getElem?_map, List.getElem?_range hj]
      show some (f j) = some (if j = c then y else f j)
      rw [if_neg fun e => q e.symm]
  · rw [List.getElem?_eq_none (by rw [List.length_set, List.length_map, List.length_range]; omega), List.getElem?_eq_none (by rw [List.length_map, List.length_range]; omega)]
/-- a sign is struck -/
theorem strike_mk (hO : PgOk (mkP N m t)) (hi : i < N) (hc : c < m i) (hz : z ≠ tabS) (cz : cl z = [x]) (hx : SgOk x) (hl : (t i c).length < 10) (hy : cl y = (cl (t i c)).take k ++ x :: (cl (t i c)).drop k) :
    doneR (mkP N m t) (.strike i c k z) = some (mkP N m fun i' c' => if i' = i ∧ c' = c then y else t i' c') ∧ PgOk (mkP N m fun i' c' => if i' = i ∧ c' = c then y else t i' c') := by
  have hrow := rowN_ok hO (n := i) (by rw [mkP_len]; exact hi)
  have hcell : CellOk (t i c) := by
    have := hrow.cells (t i c) (by rw [mkP_row hi]; exact List.mem_map.mpr ⟨c, List.mem_range.mpr hc, rfl⟩)
    exact this
  have hyok : CellOk y := by
    refine ⟨?_, fun q hq => ?_⟩
    · have : (cl y).length = (cl (t i c)).length + 1 := by
        rw [hy, List.length_append, List.length_cons, List.length_take, List.length_drop]
        omega
      have e1 : (cl y).length = y.length := Array.length_toList
      have e2 : (cl (t i c)).length = (t i c).length := Array.length_toList
      omega
    · have hq : q ∈ cl y := hq
      rw [hy, List.mem_append, List.mem_cons] at hq
      rcases hq with hq | hq | hq
      · exact hcell.sg q (List.mem_of_mem_take hq)
      · rw [hq]; exact hx
      · exact hcell.sg q (List.mem_of_mem_drop hq)
  have ok' : PgOk (mkP N m fun i' c' => if i' = i ∧ c' = c then y else t i' c') := by
    refine mkP_ok (by have := hO.pos; rw [mkP_len] at this; exact this) (by have := hO.len; rw [mkP_len] at this; exact this) (fun j hj => ?_) fun j hj q hq => ?_
    · have r := rowN_ok hO (n := j) (by rw [mkP_len]; exact hj)
      have a := r.pos
      have b := r.len
      rw [mkP_rlen hj] at a b
      exact ⟨a, b⟩
    · by_cases e : j = i ∧ q = c
      · rw [if_pos e]; exact hyok
      · rw [if_neg e]
        have r := rowN_ok hO (n := j) (by rw [mkP_len]; exact hj)
        exact r.cells _ (by rw [mkP_row hj]; exact List.mem_map.mpr ⟨q, List.mem_range.mpr hq, rfl⟩)
  have ey : zT (t i c) k ++ z ++ zD (t i c) k = y := str_ext (by
    rw [cl_app, cl_app, cl_zT, cl_zD, cz, hy]
    simp)
  have er : (rowN (mkP N m t) i).take c ++ [zT ((rowN (mkP N m t) i).getD c nilS) k ++ z ++ zD ((rowN (mkP N m t) i).getD c nilS) k] ++ (rowN (mkP N m t) i).drop (c + 1) = (List.range (m i)).map fun q => if q = c then y else t i q := by
    rw [mkP_cell hi hc, ey, mkP_row hi]
    exact row_put hc
  have cut : cutD (mkP N m t) (.strike i c k z) = some (i, 1, [(List.range (m i)).map fun q => if q = c then y else t i q]) := by
    have h := cells_sign (r := rowN (mkP N m t) i) (c := c) (k := k) hz
    rw [er] at h
    unfold cellsR at h
    injection h with h
    show some (i, 1, [if z = tabS then halvA (rowN (mkP N m t) i) c k ++ halvB (rowN (mkP N m t) i) c k else joinR (joinR (halvA (rowN (mkP N m t) i) c k) [z]) (halvB (rowN (mkP N m t) i) c k)]) = _
    rw [h]
  have eS : splice (mkP N m t) i 1 [(List.range (m i)).map fun q => if q = c then y else t i q] = mkP N m fun i' c' => if i' = i ∧ c' = c then y else t i' c' := by
    refine splice_mk hi ?_ (fun _ _ _ => rfl) fun j _ n q _ => if_neg fun e => n e.1
    exact List.map_congr_left fun q _ => by
      by_cases e : q = c
      · rw [if_pos e, if_pos ⟨rfl, e⟩]
      · rw [if_neg e, if_neg fun w => e w.2]
  refine ⟨?_, ok'⟩
  rw [← eS]
  refine done_of cut (fits_row hO ?_ ?_)
  · have := ok'.rows (rowN (mkP N m fun i' c' => if i' = i ∧ c' = c then y else t i' c') i) (by
      rw [mkP_row hi]
      exact List.mem_map.mpr ⟨i, List.mem_range.mpr hi, rfl⟩)
    rw [mkP_row hi] at this
    have e2 : ((List.range (m i)).map fun q => if q = c then y else t i q) = (List.range (m i)).map fun q => if i = i ∧ q = c then y else t i q := List.map_congr_left fun q _ => by simp
    rw [e2]
    exact this
  · show (((mkP N m t).length : Nat) : Int) - ((1 : Nat) : Int) + 1 = _
    omega
theorem nil_cut (k : Nat) : zT nilS k = nilS ∧ zD nilS k = nilS := ⟨str_ext (by rw [cl_zT]; exact List.take_nil), str_ext (by rw [cl_zD]; exact List.drop_nil)⟩
theorem map_nil_rep (n : Nat) : (List.range n).map (fun _ => nilS) = List.replicate n nilS := by
  refine List.ext_getElem? fun j => ?_
  by_cases hj : j < n
  · rw [List.getElem?_map, List.getElem?_range hj, List.getElem?_replicate, if_pos hj]
    rfl
  · rw [List.getElem?_eq_none (by rw [List.length_map, List.length_range]; omega), List.getElem?_eq_none (by rw [List.length_replicate]; omega)]
abbrev noT : Nat → Nat → Str := fun _ _ => nilS
theorem cell_nil : CellOk nilS := ⟨Nat.zero_le _, fun c h => by cases h⟩
theorem blank_ok (h1 : 1 ≤ N) (h2 : N ≤ 30) (h3 : ∀ i, i < N → 1 ≤ m i ∧ m i ≤ 6) : PgOk (mkP N m noT) := mkP_ok h1 h2 h3 fun _ _ _ _ => cell_nil
/-- a tab is struck into empty cells -/
theorem tab_mk (hO : PgOk (mkP N m noT)) (hi : i < N) (hc : c < m i) (hm : m i < 6) : doneR (mkP N m noT) (.strike i c 0 tabS) = some (mkP N (fun j => if j = i then m i + 1 else m j) noT) ∧ PgOk (mkP N (fun j => if j = i then m i + 1 else m j) noT) := by
  have ok' : PgOk (mkP N (fun j => if j = i then m i + 1 else m j) noT) := by
    refine blank_ok (by have := hO.pos; rw [mkP_len] at this; exact this) (by have := hO.len; rw [mkP_len] at this; exact this) fun j hj => ?_
    have r := rowN_ok hO (n := j) (by rw [mkP_len]; exact hj)
    have a := r.pos
    have b := r.len
    rw [mkP_rlen hj] at a b
    by_cases e : j = i
    · simp only [e, if_true]; omega
    · simp only [e, if_false]; exact ⟨a, b⟩
  have er : (rowN (mkP N m noT) i).take c ++ [zT ((rowN (mkP N m noT) i).getD c nilS) 0, zD ((rowN (mkP N m noT) i).getD c nilS) 0] ++ (rowN (mkP N m noT) i).drop (c + 1) = (List.range (m i + 1)).map fun _ => nilS := by
    rw [mkP_cell hi hc, (nil_cut 0).1, (nil_cut 0).2, mkP_row hi, map_nil_rep, map_nil_rep, List.take_replicate, List.drop_replicate]
    have : [nilS, nilS] = List.replicate 2 nilS := rfl
    rw [this, List.replicate_append_replicate, List.replicate_append_replicate]
    congr 1
    omega
  have cut : cutD (mkP N m noT) (.strike i c 0 tabS) = some (i, 1, [(List.range (m i + 1)).map fun _ => nilS]) := by
    have h := cells_tab (rowN (mkP N m noT) i) c 0
    rw [er] at h
    unfold cellsR at h
    injection h with h
    show some (i, 1, [if tabS = tabS then halvA (rowN (mkP N m noT) i) c 0 ++ halvB (rowN (mkP N m noT) i) c 0 else joinR (joinR (halvA (rowN (mkP N m noT) i) c 0) [tabS]) (halvB (rowN (mkP N m noT) i) c 0)]) = _
    rw [h]
  have eS : splice (mkP N m noT) i 1 [(List.range (m i + 1)).map fun _ => nilS] = mkP N (fun j => if j = i then m i + 1 else m j) noT := by
    refine splice_mk hi ?_ (fun j _ n => if_neg n) fun _ _ _ _ _ => rfl
    simp
  refine ⟨?_, ok'⟩
  rw [← eS]
  refine done_of cut (fits_row hO ?_ ?_)
  · have := rowN_ok ok' (n := i) (by rw [mkP_len]; exact hi)
    rw [mkP_row hi] at this
    simp only [if_true] at this
    exact this
  · show (((mkP N m noT).length : Nat) : Int) - ((1 : Nat) : Int) + 1 = _
    omega
/-- the last row of empty ones is parted -/
theorem part_mk {n : Nat} (hn : n + 2 ≤ 30) : doneR (mkP (n + 1) (fun _ => 1) noT) (.part n 0 0) = some (mkP (n + 2) (fun _ => 1) noT) := by
  have er : rowN (mkP (n + 1) (fun _ => 1) noT) n = [nilS] := by rw [mkP_row (Nat.lt_succ_self n)]; rfl
  have cut : cutD (mkP (n + 1) (fun _ => 1) noT) (.part n 0 0) = some (n, 1, [[nilS], [nilS]]) := by
    show some (n, 1, [halvA (rowN (mkP (n + 1) (fun _ => 1) noT) n) 0 0, halvB (rowN (mkP (n + 1) (fun _ => 1) noT) n) 0 0]) = _
    rw [er]
    have h1 : halvA [nilS] 0 0 = [nilS] := by decide +kernel
    have h2 : halvB [nilS] 0 0 = [nilS] := by decide +kernel
    rw [h1, h2]
  have eS : splice (mkP (n + 1) (fun _ => 1) noT) n 1 [[nilS], [nilS]] = mkP (n + 2) (fun _ => 1) noT := by
    have e : ∀ M, mkP M (fun _ => 1) noT = List.replicate M [nilS] := fun M => by
      unfold mkP
      refine List.ext_getElem? fun j => ?_
      by_cases hj : j < M
      · rw [List.getElem?_map, List.getElem?_range hj, List.getElem?_replicate, if_pos hj]
        rfl
      · rw [List.getElem?_eq_none (by rw [List.length_map, List.length_range]; omega), List.getElem?_eq_none (by rw [List.length_replicate]; omega)]
    rw [e, e]
    unfold splice
    rw [List.take_replicate, List.drop_replicate]
    have : [[nilS], [nilS]] = List.replicate 2 [nilS] := rfl
    rw [this, List.replicate_append_replicate, List.replicate_append_replicate]
    congr 1
    omega
  rw [← eS]
  refine done_of cut ?_
  rw [mkP_len]
  unfold fitsR
  have a : ([[nilS], [nilS]] : List (List Str)).all fitR = true := by decide +kernel
  rw [a, Bool.and_true]
  have l : (([[nilS], [nilS]] : List (List Str)).length : Int) = 2 := rfl
  rw [l]
  exact decide_eq_true ⟨by omega, by omega⟩
end
/-! ### the two orders -/
def ordB (b : Bool) (n : Nat) : List Nat := if b then (List.range n).reverse else List.range n
theorem ordB_len (b : Bool) (n : Nat) : (ordB b n).length = n := by
  unfold ordB
  cases b
  · exact List.length_range
  · rw [if_pos rfl, List.length_reverse, List.length_range]
theorem ordB_get {b : Bool} {n j : Nat} (h : j < n) : (ordB b n)[j]? = some (if b then n - 1 - j else j) := by
  unfold ordB
  cases b
  · exact List.getElem?_range h
  · rw [if_pos rfl, List.getElem?_reverse (by rw [List.length_range]; exact h), List.length_range, List.getElem?_range (by omega)]
    rfl
/-- how many of those there already stand ahead -/
theorem ordB_cnt {b : Bool} {n j : Nat} (h : j < n) : (((ordB b n).take j).filter fun q : Nat => decide ((q : Int) < ((if b then n - 1 - j else j : Nat) : Int))).length = if b then 0 else j := by
  cases b
  · show ((List.range n).take j |>.filter fun q : Nat => decide ((q : Int) < ((j : Nat) : Int))).length = j
    have e : (List.range n).take j = List.range j := by rw [List.take_range, Nat.min_eq_left (by omega)]
    rw [e, List.filter_eq_self.mpr fun q hq => by
      have := List.mem_range.mp hq
      exact decide_eq_true (by omega)]
    exact List.length_range
  · show (((List.range n).reverse.take j).filter fun q : Nat => decide ((q : Int) < ((n - 1 - j : Nat) : Int))).length = 0
    rw [List.length_eq_zero_iff, List.filter_eq_nil_iff]
    intro q hq
    obtain ⟨p, hp⟩ := List.mem_iff_getElem?.mp hq
    rw [List.getElem?_take] at hp
    by_cases c : p < j
    · rw [if_pos c, List.getElem?_reverse (by rw [List.length_range]; omega), List.length_range, List.getElem?_range (by omega)] at hp
      injection hp with hp
      have : ¬ ((q : Int) < ((n - 1 - j : Nat) : Int)) := by omega
      simp [this]
    · rw [if_neg c] at hp
      cases hp
/-- what of a text stands already -/
def part_ (b : Bool) (z : Str) (j : Nat) : Str := if b then zD z (z.length - j) else zT z j
theorem part_0 {b : Bool} {z : Str} : part_ b z 0 = nilS := by
  unfold part_
  cases b
  · exact str_ext (by rw [if_neg Bool.false_ne_true, cl_zT]; rfl)
  · exact str_ext (by rw [if_pos rfl, cl_zD, List.drop_eq_nil_of_le (by rw [← len_clz]; omega)])
theorem part_all {b : Bool} {z : Str} : part_ b z z.length = z := by
  unfold part_
  cases b
  · exact zT_all
  · exact str_ext (by rw [if_pos rfl, cl_zD, Nat.sub_self, List.drop_zero])
theorem part_len {b : Bool} {z : Str} {j : Nat} (h : j ≤ z.length) : (part_ b z j).length = j := by
  rw [len_clz]
  unfold part_
  have hl := len_clz (z := z)
  cases b
  · rw [if_neg Bool.false_ne_true, cl_zT, List.length_take]
    omega
  · rw [if_pos rfl, cl_zD, List.length_drop]
    omega
theorem part_next {b : Bool} {z : Str} {j x : Nat} (h : j < z.length) (hx : (cl z)[if b then z.length - 1 - j else j]? = some x) : cl (part_ b z (j + 1)) = (cl (part_ b z j)).take (if b then 0 else j) ++ x :: (cl (part_ b z j)).drop (if b then 0 else j) := by
  have hl := len_clz (z := z)
  unfold part_
  cases b
  · rw [if_neg Bool.false_ne_true] at hx
    rw [if_neg Bool.false_ne_true, if_neg Bool.false_ne_true, if_neg Bool.false_ne_true, cl_zT, cl_zT, List.take_take, List.drop_take, Nat.min_self, Nat.sub_self, List.take_zero, List.take_succ, hx]
    rfl
  · rw [if_pos rfl] at hx
    rw [if_pos rfl, if_pos rfl, if_pos rfl, cl_zD, cl_zD, List.take_zero, List.drop_zero, List.nil_append]
    have h2 : z.length - (j + 1) < (cl z).length := by omega
    have e : z.length - (j + 1) = z.length - 1 - j := by omega
    rw [List.drop_eq_getElem_cons h2]
    congr 1
    · have e2 : (cl z)[z.length - (j + 1)]? = some x := by rw [e]; exact hx
      rw [List.getElem?_eq_getElem h2] at e2
      injection e2
    · congr 1
      omega
end TGK

namespace TGK
open TG
open PySem PySem.Spec PyProof.Rows L2 Gx EnT
/-! ### a sheet beside the drawn numbers, a page and own lists -/
abbrev avX (b l : Addr) (X : Addr → Prop) : Addr → Prop := fun c => (c = b ∨ c = l) ∨ X c
structure SitP (K : PySem.W.Frag) (cs : List (Addr × Addr)) (S b l pg sh rl dl st : Addr) (as : List Addr) (rows0 : List (List Str)) (gap least : Int) (rows : List (List Str)) (ps : List (List (List Str))) (X : Addr → Prop) (H : Hp) : Prop where
  box : BoxAt H b l
  tab : Tabs cs H
  pg_ : H pg = some (.lst (as.map V.ref))
  at_ : RowsAt K H as rows0
  sht : ∃ as1 ts, ShtD K S H sh rl dl st as1 rows gap least ts ps (avX b l X)
  d : ∀ c, avX b l X c → c ≠ sh ∧ c ≠ rl ∧ c ≠ dl ∧ c ≠ pg
  dp : rl ≠ pg ∧ dl ≠ pg
  xb : ∀ c, X c → ¬ (c = b ∨ c = l)
section
variable {K : PySem.W.Frag} {cs : List (Addr × Addr)} {S b l pg sh rl dl st D : Addr} {as : List Addr} {rows0 : List (List Str)} {gap least : Int} {rows rows' : List (List Str)} {ps : List (List (List Str))} {X X' : Addr → Prop} {H H' : Hp}
theorem SitP.gw (o : SitP K cs S b l pg sh rl dl st as rows0 gap least rows ps X H) (x : LamX.ExtN H H') (t : Tabs cs H') : SitP K cs S b l pg sh rl dl st as rows0 gap least rows ps X H' := by
  obtain ⟨as1, ts, hS⟩ := o.sht
  exact ⟨box_ext o.box x, t, x _ _ o.pg_ (fun ps z => nomatch z), o.at_.gw x, ⟨as1, ts, hS.gw x⟩, o.d, o.dp, o.xb⟩
theorem SitP.ex (o : SitP K cs S b l pg sh rl dl st as rows0 gap least rows ps X H) (x : Ex cs H H') : SitP K cs S b l pg sh rl dl st as rows0 gap least rows ps X H' := o.gw x.ext x.tab
theorem SitP.draw (o : SitP K cs S b l pg sh rl dl st as rows0 gap least rows ps X H) (x : KB b l H H') (hB : BoxAt H' b l) : SitP K cs S b l pg sh rl dl st as rows0 gap least rows ps X H' := by
  obtain ⟨as1, ts, hS⟩ := o.sht
  have y := kb_km x
  have m := box_mob o.box
  exact ⟨hB, tabs_kb o.tab o.box x, y _ _ o.pg_ (fun ps z => nomatch z) (fun z => (o.d _ (.inl z)).2.2.2 rfl), o.at_.km y m, ⟨as1, ts, hS.km y m (box_mob hB) (fun c us h _ => .inl h) (fun z => (o.d _ (.inl z)).1 rfl) (fun z => (o.d _ (.inl z)).2.1 rfl) (fun z => (o.d _ (.inl z)).2.2.1 rfl)⟩, o.d, o.dp, o.xb⟩
/-- a deed is done -/
theorem SitP.deed {l0 : List (List V)} (o : SitP K cs S b l pg sh rl dl st as rows0 gap least rows ps X H) (dn : Done K cs S H H' sh rl dl st rows' gap least (rows :: ps) (avX b l X) D l0) : SitP K cs S b l pg sh rl dl st as rows0 gap least rows' (rows :: ps) X H' := by
  obtain ⟨as1, ts, hS⟩ := o.sht
  obtain ⟨as2, ts2, hS2⟩ := dn.sht
  obtain ⟨ns, s1, e1, e2, e3⟩ := o.box
  have q : ∀ {c : Addr} {us : List V}, avX b l X c → H c = some (.lst us) → H' c = some (.lst us) := fun {c us} h e => dn.ext _ _ e (.inl fun ps z => nomatch z) (o.d c h).2.1 (o.d c h).2.2.1
  refine ⟨⟨ns, s1, q (.inl (.inl rfl)) e1, q (.inl (.inr rfl)) e2, e3⟩, dn.tab, dn.ext _ _ o.pg_ (.inl fun ps z => nomatch z) o.dp.1.symm o.dp.2.symm, o.at_.exs dn.ext hS.rl_ hS.dl_, ⟨as2, ts2, hS2.less fun x h => .inl h⟩, o.d, o.dp, o.xb⟩
theorem SitP.keep {l0 : List (List V)} {c : Addr} {us : List V} (o : SitP K cs S b l pg sh rl dl st as rows0 gap least rows ps X H) (dn : Done K cs S H H' sh rl dl st rows' gap least (rows :: ps) (avX b l X) D l0) (hc : X c) (h : H c = some (.lst us)) : H' c = some (.lst us) :=
  dn.ext _ _ h (.inl fun ps z => nomatch z) (o.d c (.inr hc)).2.1 (o.d c (.inr hc)).2.2.1
/-- an own list changes -/
theorem SitP.own {c : Addr} {us ws : List V} (o : SitP K cs S b l pg sh rl dl st as rows0 gap least rows ps X H) (hc : X c) (h : H c = some (.lst us)) : SitP K cs S b l pg sh rl dl st as rows0 gap least rows ps X (upd H c (.lst ws)) := by
  obtain ⟨as1, ts, hS⟩ := o.sht
  have y := upd_km (H := H) (a := c) (o := .lst ws)
  have m : Mob H (fun q => q = c) := fun q e => .inl ⟨us, e ▸ h⟩
  have m' : Mob (upd H c (.lst ws)) (fun q => q = c) := fun q e => .inl ⟨ws, by rw [e]; exact upd_same⟩
  have dc := o.d c (.inr hc)
  obtain ⟨ns, s1, e1, e2, e3⟩ := o.box
  have nb := o.xb c hc
  refine ⟨⟨ns, s1, by rw [upd_ne fun e => nb (.inl e.symm)]; exact e1, by rw [upd_ne fun e => nb (.inr e.symm)]; exact e2, e3⟩, tabs_lst o.tab h, by rw [upd_ne dc.2.2.2.symm]; exact o.pg_, o.at_.km y m, ⟨as1, ts, hS.km y m m' (fun q us e _ => .inr (e ▸ hc)) (fun e => dc.1 e.symm) (fun e => dc.2.1 e.symm) (fun e => dc.2.2.1 e.symm)⟩, o.d, o.dp, o.xb⟩
theorem past_none {ts : List Addr} {ps : List (List (List Str))} {av : Addr → Prop} : ∀ {ts : List Addr} {as : List Addr} {ps : List (List (List Str))}, PastAt K H rl dl av as ts ps → PastAt K H rl dl (fun x => av x ∨ H x = none) as ts ps
  | [], _, [], _ => by unfold PastAt; trivial
  | [], _, _ :: _, h => by unfold PastAt at h; exact h.elim
  | _ :: _, _, [], h => by unfold PastAt at h; exact h.elim
  | t :: ts, as, rows :: ps, h => by
    unfold PastAt at h ⊢
    obtain ⟨n, m, oas, l, g1, g2, g3, g4, ga, g5, g6, g7, g8, g9⟩ := h
    exact ⟨n, m, oas, l, g1, g2, g3, g4, (fun q => q.elim ga fun z => by rw [g2] at z; cases z), g5, g6, g7, g8, past_none (ts := ts) (ps := ps) (av := av) g9⟩
/-- what is new since then is one's own -/
theorem SitP.adds (o : SitP K cs S b l pg sh rl dl st as rows0 gap least rows ps X H) (x : Ex cs H H') (hX : ∀ c, X' c → X c ∨ (H c = none ∧ ∃ xs, H' c = some (.lst xs))) : SitP K cs S b l pg sh rl dl st as rows0 gap least rows ps X' H' := by
  obtain ⟨as1, ts, hS⟩ := o.sht
  have o2 := o.ex x
  obtain ⟨dx, hsh⟩ := hS.she
  have hb : ∀ c, (c = b ∨ c = l) → H c ≠ none := fun c h e => by
    rcases box_mob o.box c h with ⟨us, g⟩ | ⟨_, _, _, g⟩ <;> rw [e] at g <;> cases g
  have S2 := hS.gw x.ext
  refine ⟨o2.box, o2.tab, o2.pg_, o2.at_, ⟨as1, ts, S2.she, S2.rl_, S2.dl_, S2.ne, S2.at_, S2.ok, S2.style, ((past_none (ts := ts) (ps := ps) (av := avX b l X) hS.past).gw x.ext).less fun c h => ?_, fun c h => ?_⟩, fun c h => ?_, o.dp, fun c h => ?_⟩
  · rcases h with h | h
    · exact .inl (.inl h)
    · exact (hX c h).imp .inr fun z => z.1
  · rcases h with h | h
    · exact S2.live c (.inl h)
    · rcases hX c h with z | ⟨_, us, z⟩
      · exact S2.live c (.inr z)
      · exact ⟨_, z, fun ps z => nomatch z⟩
  · rcases h with h | h
    · exact o.d c (.inl h)
    · rcases hX c h with z | ⟨z, _⟩
      · exact o.d c (.inr z)
      · exact ⟨(ne_of_none hsh z).symm, (ne_of_none hS.rl_ z).symm, (ne_of_none hS.dl_ z).symm, (ne_of_none o.pg_ z).symm⟩
  · rcases hX c h with z | ⟨z, _⟩
    · exact o.xb c z
    · exact fun w => hb c w z
theorem SitP.page (o : SitP K cs S b l pg sh rl dl st as rows0 gap least rows ps X H) : PageAt K H pg as rows0 := ⟨SqL.of o.pg_, o.at_.len, o.at_.row⟩
end
/-! ### _law_parted -/
section
variable {P : Program} {w : World} {K : PySem.W.Frag} {mg : Str → Option Value} {base : Heap} {cs : List (Addr × Addr)} {S R C : Addr}
abbrev lenR (rows0 : List (List Str)) : Nat → Nat := fun i => (rowN rows0 i).length
def spParted (K : PySem.W.Frag) (cs : List (Addr × Addr)) (S : Addr) : Sp := fun vs H Q _ => ∃ (b l pg sh rl dl st : Addr) (as : List Addr) (rows0 : List (List Str)) (gap least : Int), vs = [.ref b, .ref sh, .ref pg] ∧ PgOk rows0 ∧ SitP K cs S b l pg sh rl dl st as rows0 gap least (mkP 1 (fun _ => 1) noT) [] (fun _ => False) H ∧
  ∀ (ps : List (List (List Str))) (H' : Hp), ps.length ≤ 300 → SitP K cs S b l pg sh rl dl st as rows0 gap least (mkP rows0.length (lenR rows0) noT) ps (fun _ => False) H' → (mkP rows0.length (lenR rows0) noT :: ps).getLast? = some (mkP 1 (fun _ => 1) noT) → (∀ c, H' c = none → H c = none) → Q (.int (ps.length : Nat)) H'
abbrev nmParted : List Str := ["_law_box", "_law_sheet", "_law_page_here", "_law_number", "_law_many", "_law_cell_here"]
theorem sc_parted : FnScope nmParted ["_law_box", "_law_sheet", "_law_page_here"] (defScope s_lparted) := ⟨rfl, rfl, rfl, by decide +kernel, rfl, by decide +kernel, by decide +kernel⟩
theorem last_cons {α : Type} {a x : α} {l : List α} (h : l.getLast? = some x) : (a :: l).getLast? = some x := by
  cases l with
  | nil => cases h
  | cons y l => rw [List.getLast?_cons_cons]; exact h
theorem done_gone {rows rows' : List (List Str)} {gap least : Int} {d : Deed} (h : doneR rows d = some rows') {r2 : List (List Str)} {l : List (List V)} (g : goneD rows gap least d = some (r2, l)) : r2 = rows' := by
  rw [gone_done (gap := gap) (least := least), g] at h
  injection h with h
theorem not_gone {rows rows' : List (List Str)} {gap least : Int} {d : Deed} (h : doneR rows d = some rows') (g : goneD rows gap least d = none) : False := by
  rw [gone_done (gap := gap) (least := least), g] at h
  cases h
/-- how many cells the rows have while they are parted -/
def midM (rows0 : List (List Str)) (n j : Nat) : Nat → Nat := fun i => if i < n then lenR rows0 i else if i = n then j + 1 else 1
theorem ok_parted {f g2 gp gs : Addr} {fd fd2 fdp fds : FuncData} (T : Txt mg) (X : ShC K S) (F : Fun K "_law_parted" "_law_parted" s_lparted f fd)
    (G2 : FnOk P w K mg base CX0 1 g2 fd2 ["_law_box", "_law_many"] spTake) (k2 : PySem.W.keepIn K (.ref g2) = true) (b2 : Binds K fd2 ["_law_box", "_law_many"] []) (m2 : mg "_law_take" = some (.ref g2))
    (Mp : Meth K S "part" gp) (Gp : FnOk P w K mg base CX0 17 gp fdp ["self", "number", "cell", "place"] (noE (spPart K cs S R C))) (bp : Binds K fdp ["self", "number", "cell", "place"] [])
    (Ms : Meth K S "strike" gs) (Gs : FnOk P w K mg base CX0 17 gs fds ["self", "number", "cell", "place", "sign"] (noE (spStrike K cs S R C))) (bs : Binds K fds ["self", "number", "cell", "place", "sign"] []) :
    FnOk P w K mg base CX0 18 f fd ["_law_box", "_law_sheet", "_law_page_here"] (spParted K cs S) := by
  refine F.ok sc_parted (fun vs H Q E h => ?_) (fun cdv A outer s H vs Q E hr h => ?_)
  · obtain ⟨b, l, pg, sh, rl, dl, st, as, rows0, gap, least, rfl, _⟩ := h
    rfl
  · obtain ⟨b, l, pg, sh, rl, dl, st, as, rows0, gap, least, rfl, hO, o, k⟩ := h
    have nd := sc_parted.nd
    have r1 : Room 1 _ := hr.mono (by decide)
    refine ⟨_, pss_cons (ps_for PassesOwn.never rfl (pi_range1 (by rfl) T.range (pa_cons (pe_op op_sub (pe_callB call_len_seq (by rfl) T.len PySem.boot_len (pa_cons (pv 2) pa_nil)) pe_int) pa_nil)) (pg_name (i := 3) nd rfl (.inl rfl))
        (pss_one (ps_expr (pe_meth (pv 1) X.cS Mp Gp hr bp .nil pass0 (pa_cons (pv 3) (pa_cons pe_int (pa_cons pe_int pa_nil)))))))
      (pss_cons (ps_set (i := 4) nd rfl (.inl rfl) (pe_op op_sub (pe_callB call_len_seq (by rfl) T.len PySem.boot_len (pa_cons (pv 2) pa_nil)) pe_int))
      (pss_cons (ps_for PassesOwn.never rfl (pi_range1 (by rfl) T.range (pa_cons (pe_callB call_len_seq (by rfl) T.len PySem.boot_len (pa_cons (pv 2) pa_nil)) pa_nil)) (pg_name (i := 3) nd rfl (.inl rfl))
        (pss_one (ps_for PassesOwn.never rfl (pi_range1 (by rfl) T.range (pa_cons (pe_op op_sub (pe_callB call_len_seq (by rfl) T.len PySem.boot_len (pa_cons (pe_ix ix_list (pv 2) (pv 3) (fun _ _ => rfl)) pa_nil)) pe_int) pa_nil)) (pg_name (i := 5) nd rfl (.inl rfl))
          (pss_cons (ps_expr (pe_meth (pv 1) X.cS Ms Gs hr bs .nil pass0 (pa_cons (pv 3) (pa_cons (pe_call G2 r1 (by rfl) m2 k2 b2 .nil pass0 (pa_cons (pv 0) (pa_cons (pe_op op_add (pv 5) pe_int) pa_nil))) (pa_cons pe_int (pa_cons pe_str pa_nil))))))
          (pss_one (ps_set (i := 4) nd rfl (.inl rfl) (pe_op op_add (pv 4) pe_int)))))))
      (pss_one (ps_ret (pv 4))))), ?_⟩
    have hN1 := hO.pos
    have hN2 := hO.len
    have hlen : ((as.map V.ref).length : Int) = (rows0.length : Nat) := by rw [List.length_map, o.at_.len]
    have rl0 : ∀ i, i < rows0.length → 1 ≤ lenR rows0 i ∧ lenR rows0 i ≤ 6 := fun i hi => ⟨(rowN_ok hO hi).pos, (rowN_ok hO hi).len⟩
    have en : ((((as.map V.ref).length : Nat) : Int) - 1).toNat = rows0.length - 1 := by rw [hlen]; omega
    refine ⟨_, rfl, pg, _, rfl, .inl (SqL.of o.pg_), _, _, rfl, rfl, ((((as.map V.ref).length : Nat) : Int) - 1), rfl, by rw [hlen]; omega, by rw [hlen]; omega, ?_⟩
    refine for_range (n := ((((as.map V.ref).length : Nat) : Int) - 1).toNat) (fun i σ H' => ∃ (c3 c4 c5 : Option V) (ps : List (List (List Str))), σ = [some (.ref b), some (.ref sh), some (.ref pg), c3, c4, c5] ∧ SitP K cs S b l pg sh rl dl st as rows0 gap least (mkP (i + 1) (fun _ => 1) noT) ps (fun _ => False) H' ∧ ps.length = i ∧ (mkP (i + 1) (fun _ => 1) noT :: ps).getLast? = some (mkP 1 (fun _ => 1) noT) ∧ ∀ c, H' c = none → H c = none)
      ⟨none, none, none, [], rfl, o, rfl, rfl, fun c h => h⟩ ?_ ?_
    · rintro i σ H1 hi ⟨c3, c4, c5, ps, rfl, o, lp, la, old⟩
      rw [en] at hi
      obtain ⟨as1, ts, hS⟩ := id o.sht
      obtain ⟨dx, hsh⟩ := hS.she
      have dn := part_mk (n := i) (by omega)
      refine ⟨_, rfl, sh, dx, _, rfl, hsh, rfl, _, rfl, sh, i, 0, 0, by rw [Int.zero_add]; rfl, rl, dl, st, as1, _, gap, least, ts, ps, _, o.tab, hS, by omega, ?_, ⟨fun rows' l0 e D H2 d2 => ?_, fun e => (not_gone dn e).elim⟩⟩
      · refine ⟨by rw [mkP_len]; omega, by rw [mkP_rlen (by omega)]; decide, ?_⟩
        exact Nat.zero_le _
      · cases done_gone dn e
        exact ⟨_, _, _, _, rfl, o.deed d2, by rw [List.length_cons, lp], last_cons la, fun c h => old c (d2.old c h)⟩
    · rintro σ H1 ⟨c3, c4, c5, ps, rfl, o, lp, la, old⟩
      rw [en] at lp o la
      rw [show rows0.length - 1 + 1 = rows0.length by omega] at o la
      have em : ((((as.map V.ref).length : Nat) : Int) - 1) = ((ps.length : Nat) : Int) := by rw [hlen]; omega
      have en3 : (((as.map V.ref).length : Nat) : Int).toNat = rows0.length := by rw [hlen]; rfl
      refine ⟨_, rfl, pg, _, rfl, .inl (SqL.of o.pg_), _, _, rfl, rfl, ?_⟩
      refine ⟨_, rfl, pg, _, rfl, .inl (SqL.of o.pg_), (((as.map V.ref).length : Nat) : Int), rfl, by rw [hlen]; omega, by rw [hlen]; omega, ?_⟩
      have b0 : mkP rows0.length (fun _ => 1) noT = mkP rows0.length (midM rows0 0 0) noT := mkP_cong (fun i _ => by unfold midM; rw [if_neg (Nat.not_lt_zero i)]; split <;> rfl) fun _ _ _ _ => rfl
      rw [b0] at o la
      refine for_range (n := (((as.map V.ref).length : Nat) : Int).toNat) (fun i σ H' => ∃ (c3 c5 : Option V) (ps : List (List (List Str))), σ = [some (.ref b), some (.ref sh), some (.ref pg), c3, some (.int (ps.length : Nat)), c5] ∧ SitP K cs S b l pg sh rl dl st as rows0 gap least (mkP rows0.length (midM rows0 i 0) noT) ps (fun _ => False) H' ∧ ps.length ≤ 30 + 6 * i ∧ (mkP rows0.length (midM rows0 i 0) noT :: ps).getLast? = some (mkP 1 (fun _ => 1) noT) ∧ ∀ c, H' c = none → H c = none)
        ⟨_, _, ps, by rw [← em]; rfl, o, by omega, la, old⟩ ?_ ?_
      · clear o la old lp em
        rintro i σ H2 hi ⟨c3, c5, ps, rfl, o, lp, la, old⟩
        rw [en3] at hi
        obtain ⟨qa, hqa⟩ : ∃ qa, as[i]? = some qa := ⟨_, List.getElem?_eq_getElem (by rw [o.at_.len]; exact hi)⟩
        have hq := o.at_.row i qa _ hqa (rowN_get hi)
        have e0 : (0 : Int) + (i : Nat) = (i : Nat) := Int.zero_add _
        rw [e0]
        have hl1 := rl0 i hi
        have el : (((sV (rowN rows0 i)).length : Nat) : Int) = (lenR rows0 i : Nat) := by rw [List.length_map]
        have en2 : ((((sV (rowN rows0 i)).length : Nat) : Int) - 1).toNat = lenR rows0 i - 1 := by rw [el]; omega
        refine ⟨_, rfl, _, rfl, pg, _, _, _, rfl, rfl, SqL.of o.pg_, atI_nat (by rw [List.getElem?_map, hqa]; rfl), qa, _, rfl, .inr hq, _, _, rfl, rfl, ((((sV (rowN rows0 i)).length : Nat) : Int) - 1), rfl, by rw [el]; omega, by rw [el]; omega, ?_⟩
        have b1 : mkP rows0.length (midM rows0 i (lenR rows0 i - 1)) noT = mkP rows0.length (midM rows0 (i + 1) 0) noT := mkP_cong (fun q _ => by
          unfold midM
          by_cases c : q < i
          · rw [if_pos c, if_pos (by omega)]
          · rw [if_neg c]
            by_cases c2 : q = i
            · rw [if_pos c2, if_pos (by omega), c2]
              omega
            · rw [if_neg c2, if_neg (by omega)]
              split <;> rfl) fun _ _ _ _ => rfl
        refine for_range (n := ((((sV (rowN rows0 i)).length : Nat) : Int) - 1).toNat) (fun j σ H' => ∃ (c5 : Option V) (ps : List (List (List Str))), σ = [some (.ref b), some (.ref sh), some (.ref pg), some (.int (i : Nat)), some (.int (ps.length : Nat)), c5] ∧ SitP K cs S b l pg sh rl dl st as rows0 gap least (mkP rows0.length (midM rows0 i j) noT) ps (fun _ => False) H' ∧ ps.length ≤ 30 + 6 * i + j ∧ (mkP rows0.length (midM rows0 i j) noT :: ps).getLast? = some (mkP 1 (fun _ => 1) noT) ∧ ∀ c, H' c = none → H c = none)
          ⟨_, ps, rfl, o, by omega, la, old⟩ ?_ ?_
        · clear o la old lp hq
          rintro j σ H3 hj ⟨c5, ps, rfl, o, lp, la, old⟩
          rw [en2] at hj
          obtain ⟨as1, ts, hS⟩ := id o.sht
          obtain ⟨dx, hsh⟩ := hS.she
          have hm : midM rows0 i j i = j + 1 := by unfold midM; rw [if_neg (Nat.lt_irrefl _), if_pos rfl]
          refine ⟨_, rfl, sh, dx, _, rfl, hsh, rfl, _, rfl, _, rfl, _, rfl, _, _, rfl, rfl, b, l, _, rfl, o.box, by omega, by omega, fun r H4 r0 r1 hB4 x4 => ?_⟩
          obtain ⟨r, rfl⟩ := Int.eq_ofNat_of_zero_le r0
          have o4 := o.draw x4 hB4
          obtain ⟨as1, ts, hS⟩ := id o4.sht
          have hr : r < midM rows0 i j i := by rw [hm]; omega
          obtain ⟨dn, ok'⟩ := tab_mk hS.ok hi hr (by rw [hm]; omega)
          have e2 : mkP rows0.length (fun q => if q = i then midM rows0 i j i + 1 else midM rows0 i j q) noT = mkP rows0.length (midM rows0 i (j + 1)) noT := mkP_cong (fun q _ => by
            by_cases c : q = i
            · rw [if_pos c, hm]
              unfold midM
              rw [if_neg (by omega), if_pos c]
            · rw [if_neg c]
              unfold midM
              by_cases c2 : q < i
              · rw [if_pos c2, if_pos c2]
              · rw [if_neg c2, if_neg c2, if_neg c, if_neg c]) fun _ _ _ _ => rfl
          rw [e2] at dn
          refine ⟨sh, i, r, 0, tabS, rfl, rl, dl, st, as1, _, gap, least, ts, ps, _, o4.tab, hS, by omega, ⟨⟨by rw [mkP_len]; exact hi, by rw [mkP_rlen hi]; exact hr, Nat.zero_le _⟩, .inl rfl⟩, ⟨fun rows' l0 e D H5 d5 => ?_, fun e => (not_gone dn e).elim⟩⟩
          cases done_gone dn e
          refine ⟨_, rfl, _, _, rfl, rfl, ?_⟩
          exact ⟨_, mkP rows0.length (midM rows0 i j) noT :: ps, rfl, o4.deed d5, by rw [List.length_cons]; omega, last_cons la, fun c h => old c (by
            have h5 := d5.old c h
            by_cases q : c = b ∨ c = l
            · exact absurd h5 (fun z => by rcases box_mob hB4 c q with ⟨us, g⟩ | ⟨_, _, _, g⟩ <;> rw [z] at g <;> cases g)
            · cases e3 : H3 c with
              | none => rfl
              | some u =>
                rw [x4 c u e3 (fun z => q (.inl z)) (fun z => q (.inr z))] at h5
                cases h5)⟩
        · rintro σ H3 ⟨c5, ps, rfl, o, lp, la, old⟩
          rw [en2, b1] at o la
          exact ⟨_, _, ps, rfl, o, by omega, la, old⟩
      · rintro σ H2 ⟨c3, c5, ps, rfl, o, lp, la, old⟩
        have b2 : mkP rows0.length (midM rows0 rows0.length 0) noT = mkP rows0.length (lenR rows0) noT := mkP_cong (fun q hq => by unfold midM; rw [if_pos hq]) fun _ _ _ _ => rfl
        rw [en3, b2] at o la
        rw [en3] at lp
        exact ⟨_, rfl, k ps H2 (by omega) o la old⟩
end
end TGK

namespace TGK
open TG
open PySem PySem.Spec PyProof.Rows L2 Gx EnT
/-! ### pairs of numbers, as data -/
abbrev d2 (p : Nat × Nat) : PyData := .tuple [.int (p.1 : Nat), .int (p.2 : Nat)]
theorem can_d2s : ∀ l : List (Nat × Nat), PyData.canLayAll0 (l.map d2) = true
  | [] => rfl
  | p :: l => by
    rw [List.map_cons]
    simp only [PyData.canLayAll0, PyData.canLay0, can_d2s l, Bool.and_self]
theorem dep_d2s : ∀ l : List (Nat × Nat), PyData.depthAll (l.map d2) ≤ 1
  | [] => Nat.zero_le _
  | p :: l => by
    rw [List.map_cons]
    have := dep_d2s l
    simp only [PyData.depthAll, PyData.depth]
    omega
theorem shaped_d2s (l : List (Nat × Nat)) : SeqAt.shaped (.list (l.map d2)) = true := by
  unfold SeqAt.shaped
  have := dep_d2s l
  simp only [PyData.canLay0, can_d2s, Bool.true_and, PyData.depth]
  exact decide_eq_true (by omega)
structure PairsAt (H : Hp) (ts : List Addr) (l : List (Nat × Nat)) : Prop where
  len : ts.length = l.length
  at_ : ∀ (j : Nat) (t : Addr) (p : Nat × Nat), ts[j]? = some t → l[j]? = some p → H t = some (.tup (v2 p))
theorem dpAll_of {K : PySem.W.Frag} {H : Hp} : ∀ {ts : List Addr} {l : List (Nat × Nat)}, PairsAt H ts l → DpAll K H (ts.map V.ref) (l.map d2)
  | [], [], _ => .nil
  | [], _ :: _, h => by have := h.len; cases this
  | _ :: _, [], h => by have := h.len; cases this
  | t :: ts, p :: l, h => by
    refine .cons (.tup (SqT.of (h.at_ 0 t p rfl rfl)) (.cons (.int _) (.cons (.int _) .nil))) (dpAll_of ⟨by have := h.len; simp only [List.length_cons] at this; omega, fun j t' p' e1 e2 => h.at_ (j + 1) t' p' e1 e2⟩)
theorem PairsAt.same {H H' : Hp} {ts : List Addr} {l : List (Nat × Nat)} (p : PairsAt H ts l) (x : LamX.ExtN H H') : PairsAt H' ts l := ⟨p.len, fun j t q e1 e2 => x _ _ (p.at_ j t q e1 e2) fun ps z => nomatch z⟩
theorem PairsAt.app {H : Hp} {ts us : List Addr} {l m : List (Nat × Nat)} (p : PairsAt H ts l) (q : PairsAt H us m) : PairsAt H (ts ++ us) (l ++ m) := by
  refine ⟨by rw [List.length_append, List.length_append, p.len, q.len], fun j t x e1 e2 => ?_⟩
  by_cases c : j < ts.length
  · rw [List.getElem?_append_left c] at e1
    rw [List.getElem?_append_left (by rw [← p.len]; exact c)] at e2
    exact p.at_ j t x e1 e2
  · rw [List.getElem?_append_right (by omega)] at e1
    rw [List.getElem?_append_right (by rw [← p.len]; omega), ← p.len] at e2
    exact q.at_ _ t x e1 e2
theorem PairsAt.erase {H : Hp} {ts : List Addr} {l : List (Nat × Nat)} (p : PairsAt H ts l) (k : Nat) : PairsAt H (ts.eraseIdx k) (l.eraseIdx k) := by
  refine ⟨by rw [List.length_eraseIdx, List.length_eraseIdx, p.len], fun j t x e1 e2 => ?_⟩
  rw [List.getElem?_eraseIdx] at e1 e2
  by_cases c : j < k
  · rw [if_pos c] at e1 e2
    exact p.at_ j t x e1 e2
  · rw [if_neg c] at e1 e2
    exact p.at_ (j + 1) t x e1 e2
theorem pairs_tup {H0 H : Hp} {D : Addr} {l : List (Nat × Nat)} (o : TupL H0 D (l.map v2) H) : ∃ ts : List Addr, H D = some (.lst (ts.map V.ref)) ∧ PairsAt H ts l := by
  obtain ⟨ts, h1, h2, h3⟩ := o.ts
  exact ⟨ts, h1, by rw [h2, List.length_map], fun j t p e1 e2 => h3 j t (v2 p) e1 (by rw [List.getElem?_map, e2]; rfl)⟩
theorem seq_at {i : Int} {n : Nat} (h0 : 0 ≤ i) (h1 : i < (n : Nat)) : seqIndex? i n = some i.toNat := by
  unfold seqIndex?
  have a : ¬ i < 0 := by omega
  simp only [a, if_false]
  have c : (decide (0 ≤ i) && decide (i < (n : Int))) = true := by rw [decide_eq_true h0, decide_eq_true h1]; rfl
  rw [if_pos c]
theorem er_map {α β : Type} (f : α → β) : ∀ (l : List α) (k : Nat), (l.map f).eraseIdx k = (l.eraseIdx k).map f
  | [], k => by simp
  | a :: l, 0 => by simp
  | a :: l, k + 1 => by simp [er_map f l k]
/-! ### all places of the cells -/
def cellsTo (rows0 : List (List Str)) (n : Nat) : List (Nat × Nat) := (List.range n).flatMap fun i => (List.range (lenR rows0 i)).map fun c => (i, c)
theorem cellsTo_succ (rows0 : List (List Str)) (n : Nat) : cellsTo rows0 (n + 1) = cellsTo rows0 n ++ (List.range (lenR rows0 n)).map fun c => (n, c) := by
  unfold cellsTo
  rw [List.range_succ, List.flatMap_append]
  simp
theorem mem_cells {rows0 : List (List Str)} {n : Nat} {p : Nat × Nat} : p ∈ cellsTo rows0 n ↔ p.1 < n ∧ p.2 < lenR rows0 p.1 := by
  unfold cellsTo
  rw [List.mem_flatMap]
  constructor
  · rintro ⟨i, hi, h⟩
    obtain ⟨c, hc, rfl⟩ := List.mem_map.mp h
    exact ⟨List.mem_range.mp hi, List.mem_range.mp hc⟩
  · rintro ⟨h1, h2⟩
    exact ⟨p.1, List.mem_range.mpr h1, List.mem_map.mpr ⟨p.2, List.mem_range.mpr h2, rfl⟩⟩
theorem cells_nd (rows0 : List (List Str)) : ∀ n, (cellsTo rows0 n).Nodup
  | 0 => List.nodup_nil
  | n + 1 => by
    rw [cellsTo_succ, List.nodup_append]
    refine ⟨cells_nd rows0 n, ?_, fun p hp q hq e => ?_⟩
    · refine List.Pairwise.map _ ?_ (List.nodup_range (n := lenR rows0 n))
      intro a b ne e
      injection e with _ e
      exact ne e
    · have := (mem_cells.mp hp).1
      obtain ⟨c, _, rfl⟩ := List.mem_map.mp hq
      rw [e] at this
      exact absurd this (Nat.lt_irrefl _)
theorem cells_len {rows0 : List (List Str)} (hO : PgOk rows0) : ∀ {n}, n ≤ rows0.length → (cellsTo rows0 n).length ≤ 6 * n
  | 0, _ => Nat.le_refl _
  | n + 1, h => by
    rw [cellsTo_succ, List.length_append, List.length_map, List.length_range]
    have := cells_len hO (n := n) (by omega)
    have : lenR rows0 n ≤ 6 := (rowN_ok hO (n := n) (by omega)).len
    omega
/-- the page while the cells of L wait -/
def tL (rows0 : List (List Str)) (L : List (Nat × Nat)) : Nat → Nat → Str := fun i c => if (i, c) ∈ L then nilS else (rowN rows0 i).getD c nilS
def pgL (rows0 : List (List Str)) (L : List (Nat × Nat)) : List (List Str) := mkP rows0.length (lenR rows0) (tL rows0 L)
theorem pgL_all (rows0 : List (List Str)) : pgL rows0 (cellsTo rows0 rows0.length) = mkP rows0.length (lenR rows0) noT := mkP_cong (fun _ _ => rfl) fun i hi c hc => by
  unfold tL
  rw [if_pos (mem_cells.mpr ⟨hi, hc⟩)]
theorem pgL_nil (rows0 : List (List Str)) : pgL rows0 [] = rows0 := by
  refine Eq.trans (mkP_cong (fun _ _ => rfl) fun i _ c _ => ?_) (mkP_of rows0)
  unfold tL
  exact if_neg List.not_mem_nil
/-- one of them is under way -/
def pgU (rows0 : List (List Str)) (L : List (Nat × Nat)) (i c : Nat) (y : Str) : List (List Str) := mkP rows0.length (lenR rows0) fun i' c' => if i' = i ∧ c' = c then y else tL rows0 L i' c'
theorem nodup_inj {α : Type} {l : List α} (h : l.Nodup) {i j : Nat} {x : α} (h1 : l[i]? = some x) (h2 : l[j]? = some x) : i = j := by
  rw [List.nodup_iff_pairwise_ne, List.pairwise_iff_getElem] at h
  obtain ⟨a1, b1⟩ := List.getElem?_eq_some_iff.mp h1
  obtain ⟨a2, b2⟩ := List.getElem?_eq_some_iff.mp h2
  rcases Nat.lt_trichotomy i j with c | c | c
  · exact absurd (b1.trans b2.symm) (h i j a1 a2 c)
  · exact c
  · exact absurd (b2.trans b1.symm) (h j i a2 a1 c)
theorem mem_erase {α : Type} {l : List α} {k : Nat} {x p : α} (nd : l.Nodup) (hx : l[k]? = some x) : p ∈ l.eraseIdx k ↔ p ∈ l ∧ p ≠ x := by
  rw [List.mem_eraseIdx_iff_getElem?]
  constructor
  · rintro ⟨i, hi, h⟩
    refine ⟨List.mem_of_getElem? h, fun e => hi ?_⟩
    rw [e] at h
    exact nodup_inj nd h hx
  · rintro ⟨h, ne⟩
    obtain ⟨i, hi⟩ := List.mem_iff_getElem?.mp h
    refine ⟨i, fun e => ne ?_, hi⟩
    rw [e, hx] at hi
    injection hi with hi
    exact hi.symm
theorem pgU_start {rows0 : List (List Str)} {L : List (Nat × Nat)} {k i c : Nat} (nd : L.Nodup) (hk : L[k]? = some (i, c)) : pgU rows0 (L.eraseIdx k) i c nilS = pgL rows0 L := mkP_cong (fun _ _ => rfl) fun i' _ c' _ => by
  by_cases e : i' = i ∧ c' = c
  · rw [if_pos e]
    unfold tL
    rw [if_pos (by rw [e.1, e.2]; exact List.mem_of_getElem? hk)]
  · rw [if_neg e]
    unfold tL
    have : (i', c') ∈ L.eraseIdx k ↔ (i', c') ∈ L := (mem_erase nd hk).trans ⟨fun h => h.1, fun h => ⟨h, fun z => e (by injection z with z1 z2; exact ⟨z1, z2⟩)⟩⟩
    simp only [this]
theorem pgU_end {rows0 : List (List Str)} {L : List (Nat × Nat)} {k i c : Nat} (nd : L.Nodup) (hk : L[k]? = some (i, c)) : pgU rows0 (L.eraseIdx k) i c ((rowN rows0 i).getD c nilS) = pgL rows0 (L.eraseIdx k) := mkP_cong (fun _ _ => rfl) fun i' _ c' _ => by
  by_cases e : i' = i ∧ c' = c
  · rw [if_pos e]
    unfold tL
    rw [if_neg fun z => ((mem_erase nd hk).mp z).2 (by rw [e.1, e.2]), e.1, e.2]
  · rw [if_neg e]
theorem erase_nd {α : Type} {l : List α} {k : Nat} (nd : l.Nodup) : (l.eraseIdx k).Nodup := nd.sublist (List.eraseIdx_sublist ..)
end TGK

namespace TGK
open TG
open PySem PySem.Spec PyProof.Rows L2 Gx EnT
/-! ### _law_typed -/
abbrev mutP (b l rl dl : Addr) : Addr → Prop := fun c => (c = b ∨ c = l) ∨ c = rl ∨ c = dl
section
variable {P : Program} {w : World} {K : PySem.W.Frag} {mg : Str → Option Value} {base : Heap} {cs : List (Addr × Addr)} {S R C : Addr}
def spTyped (K : PySem.W.Frag) (cs : List (Addr × Addr)) (S : Addr) : Sp := fun vs H Q _ => ∃ (b l pg sh rl dl st : Addr) (as : List Addr) (rows0 : List (List Str)) (gap least : Int) (ps0 : List (List (List Str))), vs = [.ref b, .ref sh, .ref pg] ∧ PgOk rows0 ∧ SitP K cs S b l pg sh rl dl st as rows0 gap least (mkP rows0.length (lenR rows0) noT) ps0 (fun _ => False) H ∧ ps0.length ≤ 300 ∧
  ∀ (t : Nat) (ps : List (List (List Str))) (H' : Hp), t ≤ 1800 → ps.length = t + ps0.length → (rows0 :: ps).drop t = mkP rows0.length (lenR rows0) noT :: ps0 → SitP K cs S b l pg sh rl dl st as rows0 gap least rows0 ps (fun _ => False) H' → KM (mutP b l rl dl) H H' → Q (.int (t : Nat)) H'
abbrev nmTyped : List Str := ["_law_box", "_law_sheet", "_law_page_here", "_law_left", "_law_many", "_law_number", "_law_cell_here", "_law_text", "_law_order", "_law_there", "_law_place", "_law_one"]
theorem sc_typed : FnScope nmTyped ["_law_box", "_law_sheet", "_law_page_here"] (defScope s_typed) := ⟨rfl, rfl, rfl, by decide +kernel, rfl, by decide +kernel, by decide +kernel⟩
theorem km_same {A : Addr → Prop} {H H1 H' : Hp} (x : KM A H H1) (y : LamX.ExtN H1 H') : KM A H H' := fun c o h n m => y c o (x c o h n m) n
theorem km_upd {A : Addr → Prop} {H H' : Hp} {c : Addr} {o : HO} (x : KM A H H') (n : H c = none) : KM A H (upd H' c o) := fun d u h k m => by rw [upd_ne (ne_of_none h n)]; exact x d u h k m
/-- what stands between the turns over the places that wait -/
def MidT (K : PySem.W.Frag) (cs : List (Addr × Addr)) (S b l pg sh rl dl st : Addr) (as : List Addr) (rows0 : List (List Str)) (gap least : Int) (ps0 : List (List (List Str))) (H0 : Hp) (m : Nat) (σ : L2.St) (H : Hp) : Prop :=
  ∃ (c5 c6 c7 c8 c9 c10 c11 : Option V) (lf : Addr) (ts : List Addr) (L : List (Nat × Nat)) (ps : List (List (List Str))) (t : Nat), σ = [some (.ref b), some (.ref sh), some (.ref pg), some (.ref lf), some (.int (t : Nat)), c5, c6, c7, c8, c9, c10, c11] ∧ m = L.length ∧ L.length ≤ 180 ∧ L.Nodup ∧ (∀ p ∈ L, p.1 < rows0.length ∧ p.2 < lenR rows0 p.1) ∧
  H lf = some (.lst (ts.map V.ref)) ∧ PairsAt H ts L ∧ SitP K cs S b l pg sh rl dl st as rows0 gap least (pgL rows0 L) ps (fun c => c = lf) H ∧ t + 10 * L.length ≤ 1800 ∧ ps.length = t + ps0.length ∧ (pgL rows0 L :: ps).drop t = mkP rows0.length (lenR rows0) noT :: ps0 ∧ KM (mutP b l rl dl) H0 H ∧ H0 lf = none
theorem ok_typed {f g2 gs : Addr} {fd fd2 fds : FuncData} (T : Txt mg) (X : ShC K S) (F : Fun K "_law_typed" "_law_typed" s_typed f fd)
    (G2 : FnOk P w K mg base CX0 1 g2 fd2 ["_law_box", "_law_many"] spTake) (k2 : PySem.W.keepIn K (.ref g2) = true) (b2 : Binds K fd2 ["_law_box", "_law_many"] []) (m2 : mg "_law_take" = some (.ref g2))
    (Ms : Meth K S "strike" gs) (Gs : FnOk P w K mg base CX0 17 gs fds ["self", "number", "cell", "place", "sign"] (noE (spStrike K cs S R C))) (bs : Binds K fds ["self", "number", "cell", "place", "sign"] []) :
    FnOk P w K mg base CX0 18 f fd ["_law_box", "_law_sheet", "_law_page_here"] (spTyped K cs S) := by
  refine F.ok sc_typed (fun vs H Q E h => ?_) (fun cdv A outer s H vs Q E hr h => ?_)
  · obtain ⟨b, l, pg, sh, rl, dl, st, as, rows0, gap, least, ps0, rfl, _⟩ := h
    rfl
  · obtain ⟨b, l, pg, sh, rl, dl, st, as, rows0, gap, least, ps0, rfl, hO, o, lp0, k⟩ := h
    have nd := sc_typed.nd
    have r1 : Room 1 _ := hr.mono (by decide)
    have hu := hr.units
    have szl : (9000 : Nat) < sizeLine := by decide
    refine ⟨_, (pss_cons (ps_par (i := 3) (j := 4) rfl nd rfl rfl (by decide) rfl rfl (pa_cons (pe_lst pa_nil) (pa_cons pe_int pa_nil)) (by rfl))
      (pss_cons (ps_for PassesOwn.never rfl (pi_range1 (by rfl) T.range (pa_cons (pe_callB call_len_seq (by rfl) T.len PySem.boot_len (pa_cons (pv 2) pa_nil)) pa_nil)) (pg_name (i := 5) nd rfl (.inr rfl))
      (pss_one (ps_set (i := 3) nd rfl (.inl rfl) (pe_op op_cat (pv 3) (pe_lc (own := [("_law_cell_here", 6)]) (g := gName 6) (tt := tYes) rfl nd (pi_range1 (by rfl) T.range (pa_cons (pe_callB call_len_seq (by rfl) T.len PySem.boot_len (pa_cons (pe_ix ix_list (pv 2) (pv 5) (fun _ _ => rfl)) pa_nil)) pa_nil)) (blkOk_by (own := [("_law_cell_here", 6)]) (N := nmTyped) (sc := defScope s_typed) (by decide +kernel)) (fun _ _ _ _ _ => pg_name (i := 6) nd rfl (Or.inl rfl)) (fun _ _ _ _ _ => pts_nil) (fun _ _ _ _ _ => (pe_tup (pa_cons (pv 5) (pa_cons (pv 6) pa_nil)))))))))
      (pss_cons (ps_while PassesOwn.never (pt_cmpR (op_neD hu) (pv 3) (pe_lst pa_nil) (nomark _))
      (pss_cons (ps_asg (pe_bm PySem.F.plainAttrs_list PySem.F.slot_list_pop PySem.F.type_list_pop mt_popAt (pv 3) (pa_cons (pe_call G2 r1 (by rfl) m2 k2 b2 .nil pass0 (pa_cons (pv 0) (pa_cons (pe_callB call_len_seq (by rfl) T.len PySem.boot_len (pa_cons (pv 3) pa_nil)) pa_nil))) pa_nil)) (pg_tup rfl (pgs_cons (pg_name (i := 5) nd rfl (.inr rfl)) (pgs_cons (pg_name (i := 6) nd rfl (.inl rfl)) pgs_nil))))
      (pss_cons (ps_set (i := 7) nd rfl (.inl rfl) (pe_ix ix_tup (pe_ix ix_list (pv 2) (pv 5) (fun _ _ => rfl)) (pv 6) (fun _ _ => rfl)))
      (pss_cons (ps_set (i := 8) nd rfl (.inl rfl) (pe_ix ix_list (pe_lst (pa_cons (pe_listRg rfl (by rfl) T.list (prg_1 (by rfl) T.range (pe_callB call_len_str (by rfl) T.len PySem.boot_len (pa_cons (pv 7) pa_nil)))) (pa_cons (pe_revL (pe_listRg rfl (by rfl) T.list (prg_1 (by rfl) T.range (pe_callB call_len_str (by rfl) T.len PySem.boot_len (pa_cons (pv 7) pa_nil))))) pa_nil))) (pe_call G2 r1 (by rfl) m2 k2 b2 .nil pass0 (pa_cons (pv 0) (pa_cons pe_int pa_nil))) (fun _ _ => rfl)))
      (pss_cons (ps_set (i := 9) nd rfl (.inl rfl) (pe_lst pa_nil))
      (pss_one (ps_for PassesOwn.never rfl (pi_list (pv 8)) (pg_name (i := 10) nd rfl (.inr rfl))
      (pss_cons (ps_expr (pe_meth (pv 1) X.cS Ms Gs hr bs .nil pass0 (pa_cons (pv 5) (pa_cons (pv 6) (pa_cons (pe_callB call_len_seq (by rfl) T.len PySem.boot_len (pa_cons (pe_lc (own := [("_law_one", 11)]) (g := gName 11) rfl nd (pi_list (pv 9)) (blkOk_by (own := [("_law_one", 11)]) (N := nmTyped) (sc := defScope s_typed) (by decide +kernel)) (fun _ _ _ _ _ => pg_name (i := 11) nd rfl (Or.inl rfl)) (fun _ _ _ _ _ => pts_one (pt_cmpR op_lt (pv 11) (pv 10) (nomark _))) (fun _ _ _ _ _ => (pv 11))) pa_nil)) (pa_cons (pe_ix ix_str (pv 7) (pv 10) (fun _ _ => rfl)) pa_nil))))))
      (pss_cons (ps_expr (pe_bm PySem.F.plainAttrs_list PySem.F.slot_list_append PySem.F.type_list_append mt_append (pv 9) (pa_cons (pv 10) pa_nil)))
      (pss_one (ps_set (i := 4) nd rfl (.inl rfl) (pe_op op_add (pv 4) pe_int))))))))))))
      (pss_one (ps_ret (pv 4)))))), ?_⟩
    have hN1 := hO.pos
    have hN2 := hO.len
    have hlen : ((as.map V.ref).length : Int) = (rows0.length : Nat) := by rw [List.length_map, o.at_.len]
    have en : ((((as.map V.ref).length : Nat) : Int)).toNat = rows0.length := by rw [hlen]; rfl
    -- all places
    refine ⟨by show 0 ≤ sizeLine; decide, fun l0 nl0 => ⟨_, _, rfl, ?_⟩⟩
    have x1 := Ex.laid (o := .lst []) o.tab nl0
    have h1 : upd H l0 (.lst []) l0 = some (.lst (([] : List Addr).map V.ref)) := upd_same
    generalize upd H l0 (.lst []) = H1 at x1 h1 ⊢
    refine ⟨_, rfl, pg, _, rfl, .inl (SqL.of (x1.lst o.pg_)), (((as.map V.ref).length : Nat) : Int), rfl, by rw [hlen]; omega, by rw [hlen]; omega, ?_⟩
    refine for_range (n := ((((as.map V.ref).length : Nat) : Int)).toNat) (fun i σ H' => ∃ (c5 c6 c7 c8 c9 c10 c11 : Option V) (lf : Addr) (ts : List Addr), σ = [some (.ref b), some (.ref sh), some (.ref pg), some (.ref lf), some (.int (0 : Nat)), c5, c6, c7, c8, c9, c10, c11] ∧ Ex cs H H' ∧ H lf = none ∧ H' lf = some (.lst (ts.map V.ref)) ∧ PairsAt H' ts (cellsTo rows0 i))
      ⟨none, none, none, none, none, none, none, l0, [], rfl, x1, nl0, h1, rfl, fun j t p e _ => by cases e⟩ ?_ ?_
    · rintro i σ H2 hi ⟨c5, c6, c7, c8, c9, c10, c11, lf, ts, rfl, x2, nlf, hlf, hts⟩
      rw [en] at hi
      have e0 : (0 : Int) + (i : Nat) = (i : Nat) := Int.zero_add _
      rw [e0]
      have o2 := o.ex x2
      obtain ⟨qa, hqa⟩ : ∃ qa, as[i]? = some qa := ⟨_, List.getElem?_eq_getElem (by rw [o.at_.len]; exact hi)⟩
      have hq := o2.at_.row i qa _ hqa (rowN_get hi)
      have hrow := rowN_ok hO hi
      have el : (((sV (rowN rows0 i)).length : Nat) : Int) = (lenR rows0 i : Nat) := by rw [List.length_map]
      have el2 : ((((sV (rowN rows0 i)).length : Nat) : Int)).toNat = lenR rows0 i := by rw [el]; rfl
      have hl6 : lenR rows0 i ≤ 6 := hrow.len
      refine ⟨_, rfl, _, rfl, _, rfl, pg, _, _, _, rfl, rfl, SqL.of o2.pg_, atI_nat (by rw [List.getElem?_map, hqa]; rfl), qa, _, rfl, .inr hq, (((sV (rowN rows0 i)).length : Nat) : Int), rfl, by rw [el]; omega, by rw [el]; omega, fun D nD => lc_range (lo := 0) (n := ((((sV (rowN rows0 i)).length : Nat) : Int)).toNat) (fun c H' => TupL H2 D (((List.range c).map fun q => (i, q)).map v2) H') (TupL.start nD) ?_ ?_⟩
      · rintro c H3 hc o3
        rw [el2] at hc
        refine ⟨rfl, _, rfl, _, rfl, by show 2 ≤ sizeLine; decide, fun t nt => ?_⟩
        have o6 := o3.grow (same_new (o := .tup [.int (i : Nat), .int (0 + (c : Nat))]) nt)
        obtain ⟨acc, g1, g2, g3⟩ := o6.more (t := t) (v := [.int (i : Nat), .int (0 + (c : Nat))]) upd_same
        refine ⟨acc, g1, ?_, ?_⟩
        · rw [g2, List.length_map, List.length_map, List.length_range]
          omega
        · rw [List.range_succ, List.map_append, List.map_append]
          have e1 : (0 + ((c : Nat) : Int)) = ((c : Nat) : Int) := Int.zero_add _
          simp only [e1] at g3 ⊢
          exact g3
      · rintro H3 o3
        rw [el2] at o3
        have sm := o3.sm
        obtain ⟨us, hD, hus⟩ := pairs_tup o3
        have x3 := ex_same x2.tab sm
        have lts : ts.length ≤ 6 * i := by rw [hts.len]; exact cells_len hO (by omega)
        have lus : us.length = lenR rows0 i := by rw [hus.len, List.length_map, List.length_range]
        refine ⟨lf, D, ts.map V.ref, us.map V.ref, rfl, rfl, sm _ _ hlf, hD, by rw [List.length_map, List.length_map]; omega, fun p np => ?_⟩
        have x4 := Ex.laid (o := .lst (ts.map V.ref ++ us.map V.ref)) x3.tab np
        refine ⟨_, _, _, _, _, _, _, p, ts ++ us, rfl, (x2.trans x3).trans x4, (x2.trans x3).old p np, by rw [upd_same, List.map_append], ?_⟩
        rw [cellsTo_succ]
        exact ((hts.same x3.ext).app hus).same x4.ext
    rintro σ H2 ⟨c5, c6, c7, c8, c9, c10, c11, lf, ts, rfl, x2, nlf, hlf, hts⟩
    rw [en] at hts
    have o2 := o.adds (X' := fun c => c = lf) x2 fun c e => .inr ⟨e ▸ nlf, _, e ▸ hlf⟩
    have kmA : KM (mutP b l rl dl) H H2 := KM.of x2.ext
    rw [← pgL_all] at o2
    -- the turns
    refine ⟨MidT K cs S b l pg sh rl dl st as rows0 gap least ps0 H, ⟨_, c5, c6, c7, c8, c9, c10, c11, lf, ts, _, ps0, 0, rfl, rfl, ?_, cells_nd rows0 _, fun p hp => mem_cells.mp hp, hlf, hts, o2, ?_, by omega, by rw [List.drop_zero, pgL_all], kmA, nlf⟩, ?_⟩
    · have := cells_len hO (Nat.le_refl rows0.length)
      omega
    · have := cells_len hO (Nat.le_refl rows0.length)
      omega
    clear o2 kmA hlf hts nlf x2 h1 x1 nl0
    rintro m σ H3 ⟨c5, c6, c7, c8, c9, c10, c11, lf, ts, L, ps, t, rfl, rfl, lL, ndL, inL, hlf, hts, o3, ht, lp, dr, km, nlf⟩
    refine ⟨_, rfl, by show 0 ≤ sizeLine; decide, fun e0 ne0 => ?_⟩
    have x4 := Ex.laid (o := .lst []) o3.tab ne0
    have he0 : upd H3 e0 (.lst []) e0 = some (.lst []) := upd_same
    generalize upd H3 e0 (.lst []) = H4 at x4 he0 ⊢
    have o4 := o3.ex x4
    have hlf4 := x4.lst hlf
    have hts4 := hts.same x4.ext
    have km4 := km_same km x4.ext
    clear o3 hlf hts km x4
    refine ⟨.list (L.map d2), .list [], .lst (SqL.of hlf4) (dpAll_of hts4), .lst (SqL.of he0) .nil, shaped_d2s L, rfl, ?_⟩
    cases L with
    | nil =>
      refine ⟨false, rfl, iteF ⟨_, rfl, ?_⟩⟩
      rw [pgL_nil] at o4 dr
      exact k t ps _ (by omega) lp dr (o4.adds (Ex.refl o4.tab) fun c z => z.elim) km4
    | cons p0 L0 =>
    refine ⟨true, rfl, iteT ⟨fun σ' H' => ∃ m', m' < (p0 :: L0).length ∧ _, fun σ' H' q => q, ?_⟩⟩
    have lpos : 0 < (p0 :: L0).length := Nat.succ_pos _
    generalize p0 :: L0 = L at lL ndL inL o4 ht dr hts4 lpos ⊢
    clear he0
    have lts : (ts.map V.ref).length = L.length := by rw [List.length_map, hts4.len]
    refine ⟨_, rfl, .inl ⟨rfl, _, SqL.of hlf4⟩, _, rfl, _, rfl, lf, _, rfl, .inl (SqL.of hlf4), b, l, _, rfl, o4.box, by rw [lts]; omega, by rw [lts]; omega, fun r H5 r0 r1 hB5 x5 => ?_⟩
    rw [lts] at r1
    have nlf' : lf ≠ b ∧ lf ≠ l := ⟨fun e => o4.xb lf rfl (.inl e), fun e => o4.xb lf rfl (.inr e)⟩
    have o5 := o4.draw x5 hB5
    have hlf5 := x5 _ _ hlf4 nlf'.1 nlf'.2
    have hts5 : PairsAt H5 ts L := ⟨hts4.len, fun j q p e1 e2 => tup_km (kb_km x5) (box_mob o4.box) (hts4.at_ j q p e1 e2)⟩
    have km5 : KM (mutP b l rl dl) H H5 := km4.tr ((kb_km x5).mono fun c z => .inl z)
    obtain ⟨r, rfl⟩ := Int.eq_ofNat_of_zero_le r0
    have hr : r < L.length := by omega
    obtain ⟨tp, htp⟩ : ∃ tp, ts[r]? = some tp := ⟨_, List.getElem?_eq_getElem (by rw [hts5.len]; exact hr)⟩
    obtain ⟨⟨i, c⟩, hic⟩ : ∃ p, L[r]? = some p := ⟨_, List.getElem?_eq_getElem hr⟩
    have htup := hts5.at_ r tp _ htp hic
    obtain ⟨hi, hc⟩ := inL _ (List.mem_of_getElem? hic)
    clear o4 hlf4 hts4 km4 x5 hB5
    refine ⟨lf, _, _, r, .ref tp, rfl, rfl, hlf5, by omega, by omega, seq_at (by omega) (by rw [lts]; omega), by rw [List.getElem?_map, htp]; rfl, ?_⟩
    have hlf6 : upd H5 lf (.lst ((ts.map V.ref).eraseIdx r)) lf = some (.lst ((ts.eraseIdx r).map V.ref)) := by rw [upd_same, er_map]
    have hts6 : PairsAt (upd H5 lf (.lst ((ts.map V.ref).eraseIdx r))) (ts.eraseIdx r) (L.eraseIdx r) := by
      have e := hts5.erase r
      exact ⟨e.len, fun j q p e1 e2 => by
        have z := e.at_ j q p e1 e2
        rw [upd_ne fun w => by rw [w, hlf5] at z; cases z]
        exact z⟩
    have htup6 : upd H5 lf (.lst ((ts.map V.ref).eraseIdx r)) tp = some (.tup (v2 (i, c))) := by
      rw [upd_ne fun w => by rw [w, hlf5] at htup; cases htup]
      exact htup
    have o6 := o5.own (ws := (ts.map V.ref).eraseIdx r) rfl hlf5
    have km6 : KM (mutP b l rl dl) H (upd H5 lf (.lst ((ts.map V.ref).eraseIdx r))) := km_upd km5 nlf
    generalize upd H5 lf (.lst ((ts.map V.ref).eraseIdx r)) = H6 at hlf6 hts6 htup6 o6 km6 ⊢
    clear hlf5 hts5 htup o5 km5
    refine ⟨tp, _, rfl, .inl (.inl htup6), rfl, _, _, rfl, _, _, rfl, rfl, ?_⟩
    -- the text
    obtain ⟨qa, hqa⟩ : ∃ qa, as[i]? = some qa := ⟨_, List.getElem?_eq_getElem (by rw [o6.at_.len]; exact hi)⟩
    have hq := o6.at_.row i qa _ hqa (rowN_get hi)
    have hrow := rowN_ok hO hi
    have hz : (rowN rows0 i)[c]? = some ((rowN rows0 i).getD c nilS) := by rw [List.getD_eq_getElem?_getD, List.getElem?_eq_getElem hc]; rfl
    have hcell := hrow.cells _ (List.mem_of_getElem? hz)
    have hst := pgU_start (rows0 := rows0) ndL hic
    have hen := pgU_end (rows0 := rows0) ndL hic
    generalize hzz : (rowN rows0 i).getD c nilS = z at hz hcell hen
    have zl : z.length ≤ 10 := hcell.len
    refine ⟨_, rfl, _, rfl, pg, _, _, _, rfl, rfl, SqL.of o6.pg_, atI_nat (by rw [List.getElem?_map, hqa]; rfl), _, rfl, qa, _, _, .str z, rfl, rfl, hq, atI_nat (by rw [List.getElem?_map, hz]; rfl), ?_⟩
    clear hq htup6
    -- the order
    have rgo : RgOk 0 ((z.length : Nat) : Int) := ⟨by decide, by decide, by omega, by omega, by omega⟩
    have erg : rgV 0 ((z.length : Nat) : Int) = (List.range z.length).map fun q => V.int ((q : Nat) : Int) := by
      unfold rgV
      rw [Int.sub_zero, Int.toNat_natCast]
      exact List.map_congr_left fun q _ => by rw [Int.zero_add]
    refine ⟨_, rfl, z, rfl, by omega, _, rfl, rgo, fun q1 nq1 => ⟨_, rfl, z, rfl, by omega, _, rfl, rgo, fun q2 nq2 => ⟨q2, _, rfl, SqL.of upd_same, fun q3 nq3 => ⟨by show 2 ≤ sizeLine; decide, fun q4 nq4 => ⟨_, rfl, b, l, 2, rfl, ?_⟩⟩⟩⟩⟩
    have s1 := same_new (o := .lst (rgV 0 ((z.length : Nat) : Int))) nq1
    have s2 := same_new (o := .lst (rgV 0 ((z.length : Nat) : Int))) nq2
    have s3 := same_new (o := .lst (rgV 0 ((z.length : Nat) : Int)).reverse) nq3
    have s4 := same_new (o := .lst [.ref q1, .ref q3]) nq4
    have hq1 := s4 _ _ (s3 _ _ (s2 _ _ (upd_same (H := H6) (a := q1) (o := .lst (rgV 0 ((z.length : Nat) : Int))))))
    have hq3 := s4 _ _ (upd_same (H := upd (upd H6 q1 (.lst (rgV 0 ((z.length : Nat) : Int)))) q2 (.lst (rgV 0 ((z.length : Nat) : Int)))) (a := q3) (o := .lst (rgV 0 ((z.length : Nat) : Int)).reverse))
    have hq4 : upd (upd (upd (upd H6 q1 (.lst (rgV 0 ((z.length : Nat) : Int)))) q2 (.lst (rgV 0 ((z.length : Nat) : Int)))) q3 (.lst (rgV 0 ((z.length : Nat) : Int)).reverse)) q4 (.lst [.ref q1, .ref q3]) q4 = some (.lst [.ref q1, .ref q3]) := upd_same
    have sS := same_trans (same_trans (same_trans s1 s2) s3) s4
    have x7 := ex_same o6.tab sS
    have n1 : H6 q1 = none := nq1
    have n3 : H6 q3 = none := same_old (same_trans s1 s2) nq3
    generalize upd (upd (upd (upd H6 q1 (.lst (rgV 0 ((z.length : Nat) : Int)))) q2 (.lst (rgV 0 ((z.length : Nat) : Int)))) q3 (.lst (rgV 0 ((z.length : Nat) : Int)).reverse)) q4 (.lst [.ref q1, .ref q3]) = H7 at hq1 hq3 hq4 sS x7 ⊢
    have o7 := o6.adds (X' := fun c => c = lf ∨ c = q1 ∨ c = q3 ∨ c = q4) x7 fun c e => by
      rcases e with e | e | e | e
      · exact .inl e
      · exact .inr ⟨e ▸ n1, _, e ▸ hq1⟩
      · exact .inr ⟨e ▸ n3, _, e ▸ hq3⟩
      · exact .inr ⟨e ▸ same_old (same_trans (same_trans s1 s2) s3) nq4, _, e ▸ hq4⟩
    have nx : ∀ {q}, (q = lf ∨ q = q1 ∨ q = q3 ∨ q = q4) → q ≠ b ∧ q ≠ l := fun {q} h => ⟨fun e => o7.xb q h (.inl e), fun e => o7.xb q h (.inr e)⟩
    have nb1 := nx (q := q1) (.inr (.inl rfl))
    have nb3 := nx (q := q3) (.inr (.inr (.inl rfl)))
    have nb4 := nx (q := q4) (.inr (.inr (.inr rfl)))
    refine ⟨o7.box, by decide, by decide, fun bb H8 b0 b1 hB8 x8 => ?_⟩
    obtain ⟨oa, β, hoa, hat, noa⟩ : ∃ (oa : Addr) (β : Bool), H8 oa = some (.lst ((ordB β z.length).map fun q => V.int ((q : Nat) : Int))) ∧ atI ([V.ref q1, V.ref q3] : List V) bb = some (.ref oa) ∧ (oa = q1 ∨ oa = q3) := by
      have h3 : bb = 0 ∨ bb = 1 := by omega
      rcases h3 with e | e
      · refine ⟨q1, false, ?_, by rw [e]; rfl, .inl rfl⟩
        have := x8 _ _ hq1 nb1.1 nb1.2
        rw [erg] at this
        exact this
      · refine ⟨q3, true, ?_, by rw [e]; rfl, .inr rfl⟩
        have := x8 _ _ hq3 nb3.1 nb3.2
        rw [erg, ← List.map_reverse] at this
        exact this
    refine ⟨q4, _, bb, .ref oa, rfl, rfl, SqL.of (x8 _ _ hq4 nb4.1 nb4.2), hat, by show 0 ≤ sizeLine; decide, fun th nth => ?_⟩
    -- what is there of it
    have o8 := o7.draw x8 hB8
    have hlf7 := x7.lst hlf6
    have nlf2 := nx (q := lf) (.inl rfl)
    have hlf8 := x8 _ _ hlf7 nlf2.1 nlf2.2
    have hts8 : PairsAt H8 (ts.eraseIdx r) (L.eraseIdx r) := by
      have e := hts6.same x7.ext
      exact ⟨e.len, fun j q p e1 e2 => tup_km (kb_km x8) (box_mob o7.box) (e.at_ j q p e1 e2)⟩
    have km8 : KM (mutP b l rl dl) H H8 := (km_same km6 x7.ext).tr ((kb_km x8).mono fun c z => .inl z)
    have x9 := Ex.laid (o := .lst []) o8.tab nth
    have hth : upd H8 th (.lst []) th = some (.lst ((((ordB β z.length).take 0).map fun q => V.int ((q : Nat) : Int)))) := upd_same
    have nth9 : ∀ d o, H d = some o → (∀ ps, o ≠ .tbl ps) → ¬ mutP b l rl dl d → d ≠ th := fun d o h1 h2 h3 e => by
      have := km8 d o h1 h2 h3
      rw [e, nth] at this
      cases this
    have o9 := o8.adds (X' := fun c => c = lf ∨ c = oa ∨ c = th) x9 fun c e => by
      rcases e with e | e | e
      · exact .inl (.inl e)
      · refine .inl ?_
        rcases noa with w | w
        · exact .inr (.inl (e.trans w))
        · exact .inr (.inr (.inl (e.trans w)))
      · exact .inr ⟨e ▸ nth, _, by rw [e]; exact hth⟩
    have ntl : lf ≠ th := ne_of_none hlf8 nth
    have nto : oa ≠ th := ne_of_none hoa nth
    have hlf9 := x9.lst hlf8
    have hts9 := hts8.same x9.ext
    have hoa9 := x9.lst hoa
    have km9 := km_same km8 x9.ext
    generalize upd H8 th (.lst []) = H9 at x9 hth o9 hlf9 hts9 hoa9 km9 ⊢
    clear hq1 hq3 hq4 sS x7 o7 hlf6 hts6 km6 o6 hlf7 nx nb1 nb3 nb4 nq1 nq2 nq3 nq4 n1 n3 x8 hB8 s1 s2 s3 s4 hat noa o8 hoa hlf8 hts8 km8 x9 nth
    rw [← hst, ← part_0 (b := β) (z := z)] at o9 dr
    refine ⟨_, rfl, oa, rfl, ⟨_, SqL.of hoa9⟩, for_list (xs := (ordB β z.length).map fun q => V.int ((q : Nat) : Int)) (fun j σ H' => ∃ (c10 c11 : Option V) (ps' : List (List (List Str))) (t' : Nat), σ = [some (.ref b), some (.ref sh), some (.ref pg), some (.ref lf), some (.int (t' : Nat)), some (.int (i : Nat)), some (.int (c : Nat)), some (.str z), some (.ref oa), some (.ref th), c10, c11] ∧ H' oa = some (.lst ((ordB β z.length).map fun q => V.int ((q : Nat) : Int))) ∧ H' th = some (.lst ((((ordB β z.length).take j).map fun q => V.int ((q : Nat) : Int)))) ∧ H' lf = some (.lst ((ts.eraseIdx r).map V.ref)) ∧ PairsAt H' (ts.eraseIdx r) (L.eraseIdx r) ∧
        SitP K cs S b l pg sh rl dl st as rows0 gap least (pgU rows0 (L.eraseIdx r) i c (part_ β z j)) ps' (fun c => c = lf ∨ c = oa ∨ c = th) H' ∧ t' = t + j ∧ ps'.length = t' + ps0.length ∧ (pgU rows0 (L.eraseIdx r) i c (part_ β z j) :: ps').drop t' = mkP rows0.length (lenR rows0) noT :: ps0 ∧ KM (mutP b l rl dl) H H')
      ⟨_, _, ps, t, rfl, hoa9, hth, hlf9, hts9, o9, rfl, lp, dr, km9⟩ (fun j σ H' _ x => by obtain ⟨_, _, _, _, _, e, _⟩ := x; exact SqL.of e) ?_ ?_⟩
    · clear o9 hth hlf9 hts9 hoa9 km9 lp dr
      rintro j x σ H1 hx ⟨c10, c11, ps, t', rfl, hoa, hth, hlf, hts, o, et, lp, dr, km⟩
      have hj : j < z.length := by
        have := (List.getElem?_eq_some_iff.mp hx).1
        rw [List.length_map, ordB_len] at this
        exact this
      rw [List.getElem?_map, ordB_get hj] at hx
      cases hx
      generalize hp : (if β = true then z.length - 1 - j else j) = p
      have hpl : p < z.length := by rw [← hp]; split <;> omega
      have hcl : p < (cl z).length := by rw [← len_clz]; exact hpl
      obtain ⟨x0, hx0⟩ : ∃ x0, (cl z)[p]? = some x0 := ⟨_, List.getElem?_eq_getElem hcl⟩
      have sx0 : SgOk x0 := hcell.sg x0 (List.mem_of_getElem? hx0)
      obtain ⟨as1, ts1, hS⟩ := id o.sht
      obtain ⟨dx, hsh⟩ := hS.she
      refine ⟨_, rfl, sh, dx, _, rfl, hsh, rfl, _, rfl, _, rfl, _, rfl, th, rfl, ⟨_, SqL.of hth⟩, fun D nD => lc_list (xs := ((ordB β z.length).take j).map fun q => V.int ((q : Nat) : Int)) (fun q H' => Same H1 H' ∧ H' D = some (.lst ((((((ordB β z.length).take j).take q).filter fun y : Nat => decide ((y : Int) < ((p : Nat) : Int))).map fun y => V.int ((y : Nat) : Int))))) ⟨same_new nD, upd_same⟩ (fun q H' _ x => SqL.of (x.1 _ _ hth)) ?_ ?_⟩
      · rintro q x H2 hx ⟨sm, hD⟩
        obtain ⟨y, hy, rfl⟩ := get_map hx
        have hq : q < j := by
          have := (List.getElem?_eq_some_iff.mp hy).1
          rw [List.length_take] at this
          omega
        refine ⟨rfl, _, rfl, _, rfl, _, _, rfl, rfl, ?_⟩
        by_cases cc : (y : Int) < (p : Nat)
        · refine ⟨true, dT cc, iteT ⟨_, rfl, _, hD, ?_, same_upd sm nD, ?_⟩⟩
          · rw [List.length_map]
            have l1 := List.length_filter_le (fun y : Nat => decide ((y : Int) < ((p : Nat) : Int))) (((ordB β z.length).take j).take q)
            rw [List.length_take, List.length_take] at l1
            omega
          · rw [upd_same, List.take_add_one, hy, Option.toList_some, List.filter_append, List.filter_cons, if_pos (decide_eq_true cc), List.map_append]
            rfl
        · refine ⟨false, dF cc, iteF ⟨sm, ?_⟩⟩
          rw [hD, List.take_add_one, hy, Option.toList_some, List.filter_append, List.filter_cons, if_neg (by rw [decide_eq_false cc]; exact Bool.false_ne_true), List.filter_nil, List.append_nil]
      · rintro H2 ⟨sm, hD⟩
        rw [List.length_map, List.take_of_length_le (Nat.le_refl _)] at hD
        have ek : ((((ordB β z.length).take j).filter fun y : Nat => decide ((y : Int) < ((p : Nat) : Int))).map fun y => V.int ((y : Nat) : Int)).length = if β = true then 0 else j := by
          rw [List.length_map, ← hp]
          exact ordB_cnt hj
        have o2 := o.ex (ex_same o.tab sm)
        obtain ⟨as2, ts2, hS2⟩ := id o2.sht
        have cs0 : cl (⟨#[x0]⟩ : Str) = [x0] := rfl
        have s0 : (⟨#[x0]⟩ : Str) ≠ tabS := fun e => by
          have := congrArg cl e
          have e9 : cl tabS = [9] := by decide +kernel
          rw [e9, cs0] at this
          injection this with this
          have := sx0.1
          omega
        have pl := part_len (b := β) (z := z) (j := j) (by omega)
        have hi : i < rows0.length := hi
        have hc : c < lenR rows0 i := hc
        have et : (if i = i ∧ c = c then part_ β z j else tL rows0 (L.eraseIdx r) i c) = part_ β z j := if_pos ⟨rfl, rfl⟩
        obtain ⟨dn, ok'⟩ := strike_mk (N := rows0.length) (m := lenR rows0) (t := fun i' c' => if i' = i ∧ c' = c then part_ β z j else tL rows0 (L.eraseIdx r) i' c') (i := i) (c := c) (k := if β = true then 0 else j) (x := x0) (y := part_ β z (j + 1)) (z := ⟨#[x0]⟩) hS2.ok hi hc s0 cs0 sx0 (by rw [et, pl]; omega) (by
          rw [et]
          refine part_next hj ?_
          rw [hp]
          exact hx0)
        have eU : mkP rows0.length (lenR rows0) (fun i' c' => if i' = i ∧ c' = c then part_ β z (j + 1) else if i' = i ∧ c' = c then part_ β z j else tL rows0 (L.eraseIdx r) i' c') = pgU rows0 (L.eraseIdx r) i c (part_ β z (j + 1)) := mkP_cong (fun _ _ => rfl) fun i' _ c' _ => by
          by_cases e : i' = i ∧ c' = c
          · rw [if_pos e, if_pos e]
          · rw [if_neg e, if_neg e, if_neg e]
        rw [eU] at dn
        refine ⟨D, _, rfl, .inl (SqL.of hD), _, rfl, _, rfl, _, _, x0, rfl, rfl, by omega, atI_nat hx0, sh, i, c, (if β = true then 0 else j), ⟨#[x0]⟩, by rw [ek]; rfl, rl, dl, st, as2, _, gap, least, ts2, ps, _, o2.tab, hS2, by omega, ⟨⟨by unfold pgU; rw [mkP_len]; exact hi, by unfold pgU; rw [mkP_rlen hi]; exact hc, ?_⟩, .inr ⟨⟨Nat.le_refl 1, fun w hw => by rw [List.mem_singleton.mp hw]; exact sx0⟩, fun e => by have := congrArg cl e; cases this⟩⟩, ⟨fun rows' l0 e D2 H3 d3 => ?_, fun e => (not_gone dn e).elim⟩⟩
        · unfold pgU
          rw [mkP_cell hi hc, et, pl]
          split <;> omega
        · cases done_gone dn e
          have hth3 := o2.keep d3 (.inr (.inr rfl)) (sm _ _ hth)
          have hoa3 := o2.keep d3 (.inr (.inl rfl)) (sm _ _ hoa)
          have hlf3 := o2.keep d3 (.inl rfl) (sm _ _ hlf)
          have hts3 : PairsAt H3 (ts.eraseIdx r) (L.eraseIdx r) := ⟨hts.len, fun j q p e1 e2 => tup_exs d3.ext hS2.rl_ hS2.dl_ (sm _ _ (hts.at_ j q p e1 e2))⟩
          have km3 : KM (mutP b l rl dl) H H3 := fun q o h n m => d3.ext q o (sm _ _ (km q o h n m)) (.inl n) (fun e => m (.inr (.inl e))) (fun e => m (.inr (.inr e)))
          have o3 := o2.deed d3
          have o4 := o3.own (ws := (((ordB β z.length).take j).map fun q => V.int ((q : Nat) : Int)) ++ [.int (p : Nat)]) (.inr (.inr rfl)) hth3
          refine ⟨_, rfl, .inl ⟨rfl, _, SqL.of hth3⟩, _, rfl, th, _, _, rfl, rfl, hth3, by rw [List.length_map, List.length_take]; omega, ?_⟩
          refine ⟨_, rfl, _, _, rfl, rfl, ?_⟩
          refine ⟨_, _, _, t' + 1, rfl, by rw [upd_ne nto]; exact hoa3, ?_, by rw [upd_ne ntl]; exact hlf3, ⟨hts3.len, fun j q p e1 e2 => ?_⟩, o4, by omega, by rw [List.length_cons]; omega, dr, fun d u h n m => by rw [upd_ne (nth9 d u h n m)]; exact km3 d u h n m⟩
          · rw [upd_same, List.take_add_one, ordB_get hj, hp]
            simp
          · have z := hts3.at_ j q p e1 e2
            rw [upd_ne fun w => by rw [w, hth3] at z; cases z]
            exact z
    · rintro σ H1 ⟨c10, c11, ps, t', rfl, hoa, hth, hlf, hts, o, et, lp, dr, km⟩
      rw [List.length_map, ordB_len] at o et dr
      rw [part_all, hen] at o dr
      have le := List.length_eraseIdx (l := L) (i := r)
      rw [if_pos hr] at le
      exact ⟨_, by omega, _, _, _, _, _, _, _, lf, _, _, ps, t', rfl, rfl, by omega, erase_nd ndL, fun p hp => inL p ((mem_erase ndL hic).mp hp).1, hlf, hts, o.adds (Ex.refl o.tab) (fun c e => .inl (.inl e)), by omega, lp, dr, km, nlf⟩
end
end TGK

namespace L2
open PySem PySem.Spec PyProof.Rows
theorem tuple_mul1 (l : Addr) (items : Array Value) (n : Nat) (dd : Option Addr) (sl : Array (Option Value)) (u : Tok) :
    Meets (Builtin.«tuple.__mul__» ⟨[.ref l, .int 1 u], []⟩) (fun _ R s => s.heap.get? l = some { cls := .type "tuple", dict := dd, data := .seq items n, slots := sl } ∧
      R (.ok (.ret (Value.ref l))) s) :=
  .of_wp fun prog w A R s h => by
    obtain ⟨hp, g, d, tk, os⟩ := s
    obtain ⟨hl, h⟩ := h
    have f1 := AutoSeq1.idx_int
    wp_walk using wpAny_loadPart' hl
    repeat (first
      | (refine wpAny_ite_false (decide_eq_false (by decide)) ?_; wp_walk using wpAny_loadPart' hl)
      | (refine wpAny_ite_true (decide_eq_true (by simp)) ?_; wp_walk using wpAny_loadPart' hl))
    exact ⟨_, rfl, h⟩
/-- a tuple once or more -/
def rRepU (K : PySem.W.Frag) : R2 := fun x y H Q => ∃ l k xs, x = .ref l ∧ y = .int k ∧ SqT K H l xs ∧ xs ≠ [] ∧ 1 ≤ k ∧ k ≤ 1000 ∧ xs.length ≤ 1000 ∧ (k = 1 → Q (.ref l) H) ∧ ∀ p, H p = none → Q (.ref p) (upd H p (.tup (List.replicate k.toNat xs).flatten))
theorem op_repU {X : Cx} : OpR X (binaryOp .Mult) (rRepU X.K) := by
  intro pins s σ H x y v u Q I rx ry h
  obtain ⟨l, k, xs, ex, ey, hT, hne, h1, h2, hz, q1, q2⟩ := h
  by_cases c : k = 1
  · subst ex ey c
    cases rx
    obtain ⟨t, rfl⟩ := ry
    obtain ⟨its, r, ⟨⟨cls, dd, data, sl⟩, ho, hc, n, hd⟩, hs⟩ := I.tuple hT
    simp only at hc hd
    subst hc hd
    refine wpAny_binaryOp_repeat_ref (T := "tuple") (U := "int") (by decide) ⟨_, ho, rfl⟩ (fun s' => typeIs_int s' 1 t) noFill_tuple_mul F.fills_int_mul F.slot_int_rmul repeat_tuple F.slot_int_index.lookup
      (call_meets F.slot_int_rmul (typeIs_int s 1 t) F.entry_int_rmul (F.args_int_rmul_2 _ _) (int_rmul_tuple 1 t l its.toArray n dd sl)
        ⟨ho, rfl, ⟨_, ho, rfl⟩, call_meets F.slot_tuple_mul ⟨_, ho, rfl⟩ F.entry_tuple_mul (F.args_tuple_mul_2 _ _) (tuple_mul1 l its.toArray n dd sl t) ⟨ho, ?_⟩⟩)
    exact ⟨.ref l, H, I, rfl, q1 rfl⟩
  · exact op_repT pins s σ H x y v u Q I rx ry ⟨l, k, xs, ex, ey, hT, hne, by omega, h2, hz, q2⟩
end L2

namespace TGK
open TG
open PySem PySem.Spec PyProof.Rows L2 Gx EnT
/-! ### pages told, held together -/
structure PgK (K : PySem.W.Frag) (H : Hp) (r : Addr) (ps : List Addr) (rows : List (List Str)) : Prop where
  lst : SqL K H r (ps.map V.ref)
  row : RowsAt K H ps rows
section
variable {K : PySem.W.Frag} {cs : List (Addr × Addr)} {H H' : Hp} {rows : List (List Str)} {r c : Addr} {ps qs : List Addr} {Z : VK}
theorem PgK.dp (p : PgK K H r ps rows) : Dp K H (.ref r) (.list (rowsD rows)) := .lst p.lst (dp_rows p.row.len fun i q t h1 h2 => p.row.row i q t h1 h2)
theorem PgK.ex (p : PgK K H r ps rows) (x : Ex cs H H') : PgK K H' r ps rows := ⟨x.sqL p.lst, p.row.gw x.ext⟩
theorem ne_pgK (g : PgOk rows) (h1 : PgK K H r ps rows) (h2 : PgK K H c qs rows) (q : Z (.bl false) H) : rNeD K (.ref r) (.ref c) H Z := by
  have s := shaped_rows g
  have e : PyData.eqv (.list (rowsD rows)) (.list (rowsD rows)) = true := SeqAt.eqv_refl _ (can_rows g)
  exact ⟨_, _, h1.dp, h2.dp, s, s, by rw [e]; exact q⟩
theorem eq_pgK (g : PgOk rows) (h1 : PgK K H r ps rows) (h2 : PgK K H c qs rows) (q : Z (.bl true) H) : rEqD K (.ref r) (.ref c) H Z := by
  have s := shaped_rows g
  have e : PyData.eqv (.list (rowsD rows)) (.list (rowsD rows)) = true := SeqAt.eqv_refl _ (can_rows g)
  exact ⟨_, _, h1.dp, h2.dp, s, s, by rw [e]; exact q⟩
/-! ### begins told, held together -/
def begD (f : Nat → List Int) (n : Nat) : List PyData := (List.range n).map fun i => .list ((f i).map .int)
theorem can_ints : ∀ l : List Int, PyData.canLayAll0 (l.map PyData.int) = true
  | [] => rfl
  | a :: l => by
    rw [List.map_cons]
    simp only [PyData.canLayAll0, PyData.canLay0, can_ints l, Bool.and_self]
theorem dep_ints : ∀ l : List Int, PyData.depthAll (l.map PyData.int) = 0
  | [] => rfl
  | a :: l => by
    rw [List.map_cons]
    simp only [PyData.depthAll, PyData.depth, dep_ints l]
    rfl
theorem can_lists : ∀ ls : List (List Int), PyData.canLayAll0 (ls.map fun l => PyData.list (l.map .int)) = true
  | [] => rfl
  | a :: ls => by
    rw [List.map_cons]
    simp only [PyData.canLayAll0, PyData.canLay0, can_ints, can_lists ls, Bool.and_self]
theorem dep_lists : ∀ ls : List (List Int), PyData.depthAll (ls.map fun l => PyData.list (l.map .int)) ≤ 1
  | [] => Nat.zero_le _
  | a :: ls => by
    rw [List.map_cons]
    have := dep_lists ls
    simp only [PyData.depthAll, PyData.depth, dep_ints]
    omega
theorem begD_eq (f : Nat → List Int) (n : Nat) : begD f n = ((List.range n).map f).map fun l => PyData.list (l.map .int) := by
  unfold begD
  rw [List.map_map]
  rfl
theorem can_begD (f : Nat → List Int) (n : Nat) : PyData.canLay0 (.list (begD f n)) = true := by
  rw [begD_eq]
  simp only [PyData.canLay0]
  exact can_lists _
theorem shaped_begD (f : Nat → List Int) (n : Nat) : SeqAt.shaped (.list (begD f n)) = true := by
  unfold SeqAt.shaped
  rw [can_begD, begD_eq]
  have := dep_lists ((List.range n).map f)
  simp only [Bool.true_and, PyData.depth]
  exact decide_eq_true (by omega)
theorem dp_ints : ∀ l : List Int, DpAll K H (l.map V.int) (l.map PyData.int)
  | [] => .nil
  | a :: l => .cons (.int _) (dp_ints l)
theorem dpAll_get : ∀ {vs : List V} {ds : List PyData}, vs.length = ds.length → (∀ (i : Nat) (v : V) (d : PyData), vs[i]? = some v → ds[i]? = some d → Dp K H v d) → DpAll K H vs ds
  | [], [], _, _ => .nil
  | [], _ :: _, h, _ => by cases h
  | _ :: _, [], h, _ => by cases h
  | v :: vs, d :: ds, h, k => .cons (k 0 v d rfl rfl) (dpAll_get (by simp only [List.length_cons] at h; omega) fun i v' d' e1 e2 => k (i + 1) v' d' e1 e2)
theorem told_dp {es : List Addr} {f : Nat → List Int} {n : Nat} (t : ToldAt H r es f n) : Dp K H (.ref r) (.list (begD f n)) := by
  refine .lst (SqL.of t.lst) (dpAll_get ?_ fun i v d e1 e2 => ?_)
  · unfold begD
    rw [List.length_map, List.length_map, List.length_range, t.len]
  · obtain ⟨e, he, rfl⟩ := get_map e1
    have hi : i < n := by
      have := (List.getElem?_eq_some_iff.mp he).1
      rw [t.len] at this
      exact this
    unfold begD at e2
    rw [List.getElem?_map, List.getElem?_range hi] at e2
    cases e2
    exact .lst (SqL.of (t.at_ i e he)) (dp_ints _)
theorem ne_told {es es' : List Addr} {f : Nat → List Int} {n : Nat} (h1 : ToldAt H r es f n) (h2 : ToldAt H c es' f n) (q : Z (.bl false) H) : rNeD K (.ref r) (.ref c) H Z := by
  have s := shaped_begD f n
  have e : PyData.eqv (.list (begD f n)) (.list (begD f n)) = true := SeqAt.eqv_refl _ (can_begD f n)
  exact ⟨_, _, told_dp h1, told_dp h2, s, s, by rw [e]; exact q⟩
end
/-! ### a change is taken back -/
section
variable {K : PySem.W.Frag} {cs : List (Addr × Addr)} {S b l pg sh rl dl st : Addr} {as as1 : List Addr} {rows0 : List (List Str)} {gap least : Int} {rows rows' : List (List Str)} {ps ps' : List (List (List Str))} {ts1 : List Addr} {X : Addr → Prop} {H H' : Hp}
theorem SitP.back (o : SitP K cs S b l pg sh rl dl st as rows0 gap least rows ps X H) (x : ExtS cs rl dl H H') (t : Tabs cs H') (n : ShtD K S H' sh rl dl st as1 rows' gap least ts1 ps' (avX b l X)) : SitP K cs S b l pg sh rl dl st as rows0 gap least rows' ps' X H' := by
  obtain ⟨as2, ts2, hS⟩ := o.sht
  obtain ⟨ns, s1, e1, e2, e3⟩ := o.box
  have q : ∀ {c : Addr} {us : List V}, avX b l X c → H c = some (.lst us) → H' c = some (.lst us) := fun {c us} h e => x _ _ e (.inl fun ps z => nomatch z) (o.d c h).2.1 (o.d c h).2.2.1
  exact ⟨⟨ns, s1, q (.inl (.inl rfl)) e1, q (.inl (.inr rfl)) e2, e3⟩, t, x _ _ o.pg_ (.inl fun ps z => nomatch z) o.dp.1.symm o.dp.2.symm, o.at_.exs x hS.rl_ hS.dl_, ⟨as1, ts1, n⟩, o.d, o.dp, o.xb⟩
end
theorem drop_next {α : Type} {l : List α} {i : Nat} {a b : α} {m : List α} (h : l.drop i = a :: b :: m) : l.drop (i + 1) = b :: m := by
  have : l.drop (i + 1) = (l.drop i).drop 1 := by rw [List.drop_drop]
  rw [this, h]
  rfl
/-! ### rubbed from the end -/
theorem goR_consK (R : List (List Nat)) (C : List Nat) (c : Nat) (l : List Nat) : goR R C (c :: l) = if c = 9 then goR (R ++ [C]) [] l else if c = 10 then (R ++ [C]) :: goR [] [] l else goR R (C ++ [c]) l := rfl
def GC (R : List (List (List Nat))) : Prop := R.length ≤ 30 ∧ ∀ r ∈ R, r.length ≤ 6 ∧ ∀ c ∈ r, c.length ≤ 10
theorem gc_of {rows : List (List Str)} (h : PgOk rows) : GC (rows.map (List.map cl)) := by
  refine ⟨by rw [List.length_map]; exact h.len, fun r hr => ?_⟩
  obtain ⟨q, hq, rfl⟩ := List.mem_map.mp hr
  refine ⟨by rw [List.length_map]; exact (h.rows q hq).len, fun c hc => ?_⟩
  obtain ⟨z, hz, rfl⟩ := List.mem_map.mp hc
  rw [← len_clz]
  exact ((h.rows q hq).cells z hz).len
theorem pg_of {z : Str} (t : TxtSg z) (h : GC (goR [] [] (cl z ++ [10]))) : PgOk (rowsT z) := by
  rw [← rowsT_cl] at h
  refine good_pg t ⟨by have := h.1; rw [List.length_map] at this; exact this, fun r hr => ?_⟩
  have := h.2 _ (List.mem_map.mpr ⟨r, hr, rfl⟩)
  rw [List.length_map] at this
  unfold TG.fitR
  rw [Bool.and_eq_true]
  refine ⟨decide_eq_true this.1, List.all_eq_true.mpr fun z hz => decide_eq_true ?_⟩
  have := this.2 _ (List.mem_map.mpr ⟨z, hz, rfl⟩)
  rw [len_clz]
  exact this
theorem gc_less {l : List Nat} {x : Nat} (h : GC (goR [] [] (l ++ [x] ++ [10]))) : GC (goR [] [] (l ++ [10])) := by
  obtain ⟨g, a, b, e, _⟩ := go_pre l [] []
  have e1 : goR [] [] (l ++ [10]) = g ++ [a ++ [b]] := by
    rw [e [10], goR_consK, if_neg (by decide), if_pos rfl]
    rfl
  have e2 := e ([x] ++ [10])
  rw [← List.append_assoc] at e2
  rw [e2] at h
  rw [e1]
  have e3 : goR a b ([x] ++ [10]) = if x = 9 then [a ++ [b] ++ [[]]] else if x = 10 then [a ++ [b], [[]]] else [a ++ [b ++ [x]]] := by
    show goR a b (x :: [10]) = _
    rw [goR_consK]
    by_cases c : x = 9
    · rw [if_pos c, if_pos c, goR_consK, if_neg (by decide), if_pos rfl]
      rfl
    · rw [if_neg c, if_neg c]
      by_cases c2 : x = 10
      · rw [if_pos c2, if_pos c2, goR_consK, if_neg (by decide), if_pos rfl]
        rfl
      · rw [if_neg c2, if_neg c2, goR_consK, if_neg (by decide), if_pos rfl]
        rfl
  rw [e3] at h
  by_cases c : x = 9
  · rw [if_pos c] at h
    refine ⟨by have := h.1; rw [List.length_append] at this ⊢; exact this, fun r hr => ?_⟩
    rcases List.mem_append.mp hr with q | q
    · exact h.2 r (List.mem_append_left _ q)
    · rw [List.mem_singleton] at q
      have := h.2 (a ++ [b] ++ [[]]) (List.mem_append_right _ (by simp))
      rw [q]
      refine ⟨by have := this.1; rw [List.length_append] at this; omega, fun c hc => this.2 c (List.mem_append_left _ hc)⟩
  · rw [if_neg c] at h
    by_cases c2 : x = 10
    · rw [if_pos c2] at h
      refine ⟨by have := h.1; rw [List.length_append] at this ⊢; simp only [List.length_cons, List.length_nil] at this ⊢; omega, fun r hr => ?_⟩
      rcases List.mem_append.mp hr with q | q
      · exact h.2 r (List.mem_append_left _ q)
      · exact h.2 r (List.mem_append_right _ (by rw [List.mem_singleton] at q; rw [q]; simp))
    · rw [if_neg c2] at h
      refine ⟨by have := h.1; rw [List.length_append] at this ⊢; exact this, fun r hr => ?_⟩
      rcases List.mem_append.mp hr with q | q
      · exact h.2 r (List.mem_append_left _ q)
      · rw [List.mem_singleton] at q
        have := h.2 (a ++ [b ++ [x]]) (List.mem_append_right _ (by simp))
        rw [q]
        refine ⟨by have := this.1; rw [List.length_append] at this ⊢; exact this, fun c hc => ?_⟩
        rcases List.mem_append.mp hc with w | w
        · exact this.2 c (List.mem_append_left _ w)
        · rw [List.mem_singleton] at w
          have := this.2 (b ++ [x]) (List.mem_append_right _ (by simp))
          rw [List.length_append] at this
          rw [w]
          omega
theorem tx_take {z : Str} (t : TxtSg z) (k : Nat) : TxtSg (zT z k) := fun c hc => by
  rw [cl_zT] at hc
  exact t c (List.mem_of_mem_take hc)
theorem pg_take {z : Str} (t : TxtSg z) (h : PgOk (rowsT z)) : ∀ {j : Nat}, j ≤ z.length → PgOk (rowsT (zT z (z.length - j)))
  | 0, _ => by rw [Nat.sub_zero, zT_all]; exact h
  | j + 1, hj => by
    have ih := pg_take t h (j := j) (by omega)
    have g := gc_of ih
    rw [rowsT_cl, cl_zT] at g
    refine pg_of (tx_take t _) ?_
    rw [cl_zT]
    have hl : z.length - (j + 1) < (cl z).length := by rw [← len_clz]; omega
    have e : (cl z).take (z.length - j) = (cl z).take (z.length - (j + 1)) ++ [(cl z)[z.length - (j + 1)]] := by
      have : z.length - j = z.length - (j + 1) + 1 := by omega
      rw [this, List.take_succ_eq_append_getElem hl]
    rw [e] at g
    exact gc_less g
end TGK

namespace TGK
open TG
open PySem PySem.Spec PyProof.Rows L2 Gx EnT
theorem tnil_go {σ : L2.St} {H : Hp} {Q : List V → Hp → Prop} (h : Q [] H) : tNil σ H Q := h
theorem tC_go {v : V} {σ : L2.St} {H : Hp} {Q : VK} (h : Q v H) : tC v σ H Q := h
section
variable {K : PySem.W.Frag} {cs : List (Addr × Addr)} {S b l pg sh rl dl st : Addr} {as as1 : List Addr} {rows0 : List (List Str)} {gap least : Int} {rows : List (List Str)} {ps : List (List (List Str))} {X : Addr → Prop} {H H' H4 H8 : Hp}
theorem SitP.mob (o : SitP K cs S b l pg sh rl dl st as rows0 gap least rows ps X H) : Mob H (mutP b l rl dl) := fun c h => by
  obtain ⟨as1, ts, hS⟩ := o.sht
  rcases h with h | h | h
  · exact box_mob o.box c h
  · exact .inl ⟨_, h ▸ hS.rl_⟩
  · exact .inl ⟨_, h ▸ hS.dl_⟩
theorem sitP_new (hB : BoxAt H4 b l) (pb : pg ≠ b) (pl : pg ≠ l) (hp : H4 pg = some (.lst (as.map V.ref))) (ha : RowsAt K H4 as rows0) (x48 : Ex cs H4 H8) (nsh : H4 sh = none) (nrl : H4 rl = none) (ndl : H4 dl = none) (hS : ShtD K S H8 sh rl dl st as1 rows gap least [] [] (fun _ => False)) : SitP K cs S b l pg sh rl dl st as rows0 gap least rows [] (fun _ => False) H8 := by
  have hB8 := box_ext hB x48.ext
  have bx : ∀ c, (c = b ∨ c = l) → H4 c ≠ none := by
    intro c h e
    rcases box_mob hB c h with ⟨us, g⟩ | ⟨_, _, _, g⟩
    · rw [e] at g
      cases g
    · rw [e] at g
      cases g
  have d1 : rl ≠ pg := fun e => by
    rw [← e, nrl] at hp
    cases hp
  have d2 : dl ≠ pg := fun e => by
    rw [← e, ndl] at hp
    cases hp
  refine ⟨hB8, x48.tab, x48.lst hp, ha.gw x48.ext, ⟨as1, [], hS.fresh fun c h => ?_⟩, fun c h => ?_, ⟨d1, d2⟩, fun c h => h.elim⟩
  · rcases h with h | h
    · obtain ⟨us, e⟩ | ⟨_, _, _, e⟩ := box_mob hB8 c h
      · exact ⟨_, e, fun ps z => nomatch z⟩
      · exact ⟨_, e, fun ps z => nomatch z⟩
    · exact h.elim
  · rcases h with h | h
    · refine ⟨fun e => bx c h (e ▸ nsh), fun e => bx c h (e ▸ nrl), fun e => bx c h (e ▸ ndl), fun e => ?_⟩
      exact h.elim (fun w => pb (e ▸ w)) (fun w => pl (e ▸ w))
    · exact h.elim
end
theorem nil_str : ("" : Str) = nilS := by decide +kernel
theorem blank_eq (rows : List (List Str)) : (rows.map fun r => List.replicate r.length nilS) = mkP rows.length (lenR rows) noT := by
  unfold mkP
  refine List.ext_getElem? fun i => ?_
  by_cases h : i < rows.length
  · rw [List.getElem?_map, List.getElem?_map, List.getElem?_range h, rowN_get h]
    show some (List.replicate (rowN rows i).length nilS) = some ((List.range (lenR rows i)).map fun _ => nilS)
    rw [map_nil_rep]
  · rw [List.getElem?_eq_none (by rw [List.length_map]; omega), List.getElem?_eq_none (by rw [List.length_map, List.length_range]; omega)]
/-! ### how long a page's text is -/
theorem joinL_length {S : List Nat} (h1 : S.length = 1) : ∀ {ps : List (List Nat)}, ps ≠ [] → (TL.joinL S ps).length + 1 = (ps.map List.length).sum + ps.length
  | [], h => absurd rfl h
  | [p], _ => by simp [TL.joinL]
  | p :: q :: r, _ => by
    have ih := joinL_length h1 (ps := q :: r) (by simp)
    have e : TL.joinL S (p :: q :: r) = p ++ (S ++ TL.joinL S (q :: r)) := rfl
    rw [e, List.length_append, List.length_append, h1]
    simp only [List.map_cons, List.sum_cons, List.length_cons] at ih ⊢
    omega
theorem sum_cast {α : Type} (f : α → Nat) : ∀ l : List α, (((l.map f).sum : Nat) : Int) = (l.map fun x => ((f x : Nat) : Int)).sum
  | [] => rfl
  | a :: l => by
    rw [List.map_cons, List.map_cons, List.sum_cons, List.sum_cons, ← sum_cast f l]
    omega
def rowSum (r : List Str) : Int := 1 + ((r.length : Nat) : Int) - 1 + (r.map fun z => ((z.length : Nat) : Int)).sum
theorem row_len {r : List Str} (h : RowOk r) : ((rowT r).length : Int) + 1 = rowSum r := by
  have hne : (r.map cl) ≠ [] := fun e => by
    have := h.pos
    have l := congrArg List.length e
    rw [List.length_map] at l
    have l : r.length = 0 := l
    omega
  have j := joinL_length (S := cl tabS) (by decide +kernel) hne
  have e : (rowT r).length = (TL.joinL (cl tabS) (r.map cl)).length := by
    rw [len_clz]
    unfold rowT
    rw [cl_joinL]
  rw [List.map_map, List.length_map] at j
  have e2 : (r.map (List.length ∘ cl)) = r.map fun z => z.length := List.map_congr_left fun z _ => (len_clz (z := z)).symm
  rw [e2] at j
  rw [← e] at j
  have e3 : ((r.map fun z => z.length).sum : Nat) = (r.map Str.length).sum := rfl
  unfold rowSum
  rw [← sum_cast]
  have j3 := j
  generalize (rowT r).length = A at j3 ⊢
  generalize hB : (r.map fun z => z.length).sum = B at j3 ⊢
  generalize r.length = C at j3 ⊢
  omega
theorem page_len {rows : List (List Str)} (h : PgOk rows) : (rows.map rowSum).sum - 1 = ((pageT rows).length : Nat) := by
  have hne : ((rows.map rowT).map cl) ≠ [] := fun e => by
    have := h.pos
    have l := congrArg List.length e
    rw [List.length_map, List.length_map] at l
    have l : rows.length = 0 := l
    omega
  have j := joinL_length (S := cl lineS) (by decide +kernel) hne
  have e : (pageT rows).length = (TL.joinL (cl lineS) ((rows.map rowT).map cl)).length := by
    rw [len_clz]
    unfold pageT
    rw [cl_joinL]
  rw [List.map_map, List.map_map, List.length_map] at j
  have e2 : (rows.map (List.length ∘ cl ∘ rowT)) = rows.map fun r => (rowT r).length := List.map_congr_left fun z _ => (len_clz (z := rowT z)).symm
  rw [e2] at j
  have e3 : ∀ rs : List (List Str), (∀ r ∈ rs, RowOk r) → (rs.map rowSum).sum = (((rs.map fun r => (rowT r).length).sum : Nat) : Int) + ((rs.length : Nat) : Int) := by
    intro rs
    induction rs with
    | nil => intro _; rfl
    | cons r rs ih =>
      intro hr
      have a := row_len (hr r (by simp))
      have b := ih fun q hq => hr q (by simp [hq])
      rw [List.map_cons, List.map_cons, List.sum_cons, List.sum_cons, List.length_cons, b, ← a]
      omega
  rw [List.map_map] at e
  rw [← e] at j
  rw [e3 rows h.rows]
  generalize (rows.map fun r => (rowT r).length).sum = A at j ⊢
  generalize (pageT rows).length = B at j ⊢
  omega
theorem page_tx {rows : List (List Str)} (h : PgOk rows) : TxtSg (pageT rows) := fun c hc => by
  unfold pageT at hc
  rw [cl_joinL, cl_lineS] at hc
  rcases joinL_mem _ _ _ hc with z | ⟨x, hx, z⟩
  · rw [List.mem_singleton] at z
    exact .inr (.inr z)
  · obtain ⟨t, ht, rfl⟩ := List.mem_map.mp hx
    obtain ⟨r, hr, rfl⟩ := List.mem_map.mp ht
    rcases rowT_sg (h.rows r hr) c z with w | w
    · exact .inr (.inl w)
    · exact .inl w
theorem tYes_go {σ : L2.St} {H : Hp} {A B : Hp → Prop} (h : A H) : tYes σ H fun b H' => if b = true then A H' else B H' := by
  show (if true = true then A H else B H)
  rw [if_pos rfl]
  exact h
theorem RowsAt.snoc {K : PySem.W.Frag} {H : Hp} {as : List Addr} {rows : List (List Str)} {q : Addr} {r : List Str} (p : RowsAt K H as rows) (h : SqT K H q (sV r)) : RowsAt K H (as ++ [q]) (rows ++ [r]) := p.app ⟨rfl, fun i q' r' e1 e2 => by
  cases i with
  | zero =>
    cases e1
    cases e2
    exact h
  | succ i => cases e1⟩
theorem rep_sV (n : Nat) : (List.replicate n [V.str ("" : Str)]).flatten = sV (List.replicate n nilS) := by
  rw [nil_str]
  induction n with
  | zero => rfl
  | succ n ih =>
    rw [List.replicate_succ, List.flatten_cons, ih, List.replicate_succ]
    rfl
theorem drop_more {α : Type} {l : List α} {i : Nat} {a : α} {m : List α} (h : l.drop i = a :: m) (n : i + 1 < l.length) : m ≠ [] := fun e => by
  have := congrArg List.length h
  rw [e, List.length_drop] at this
  simp only [List.length_cons, List.length_nil] at this
  omega
theorem drop_last {α : Type} {x y z : α} {l m : List α} (h : (x :: l).drop l.length = y :: m) (g : (x :: l).getLast? = some z) : y = z ∧ m = [] := by
  have e := congrArg List.length h
  rw [List.length_drop] at e
  simp only [List.length_cons] at e
  have em : m = [] := List.eq_nil_of_length_eq_zero (by omega)
  subst em
  have e2 := List.getLast?_drop (l := x :: l) (i := l.length)
  rw [h, if_neg (by simp), g] at e2
  injection e2 with e2
  exact ⟨e2, rfl⟩
theorem pk_one {K : PySem.W.Frag} {H : Hp} {tp ls : Addr} (ntp : H tp = none) (nls : upd H tp (.tup [V.str ""]) ls = none) : PgK K (upd (upd H tp (.tup [V.str ""])) ls (.lst [V.ref tp])) ls [tp] (mkP 1 (fun _ => 1) noT) :=
  ⟨SqL.of upd_same, rfl, fun i q r h1 h2 => by
    cases i with
    | zero =>
      cases h1
      cases h2
      exact SqT.of (same_new nls _ _ upd_same)
    | succ i => cases h1⟩
theorem eq_v3K {K : PySem.W.Frag} {H : Hp} {Z : VK} {t u : Addr} {x y z : Int} (h1 : SqT K H t [.int x, .int y, .int z]) (h2 : SqT K H u [.int x, .int y, .int z]) (q : Z (.bl true) H) : rEqD K (.ref t) (.ref u) H Z := by
  refine ⟨_, _, .tup h1 (.cons (.int _) (.cons (.int _) (.cons (.int _) .nil))), .tup h2 (.cons (.int _) (.cons (.int _) (.cons (.int _) .nil))), rfl, rfl, ?_⟩
  have e : PyData.eqv (.tuple [.int x, .int y, .int z]) (.tuple [.int x, .int y, .int z]) = true := by simp [PyData.eqv, PyData.eqvAll]
  rw [e]
  exact q
/-! ### the law -/
section
variable {P : Program} {w : World} {K : PySem.W.Frag} {mg : Str → Option Value} {base : Heap} {cs : List (Addr × Addr)} {U S R C : Addr}
abbrev scSteps : Scope := { kind := .function, names := [(".0", .local), ("_law_row_here", .local), ("len", .globalImplicit), ("sum", .globalImplicit)], isGenerator := false, isCoroutine := false, more := [] }
def spLaw (K : PySem.W.Frag) (cs : List (Addr × Addr)) : Sp := fun vs H Q _ => ∃ (a : Addr) (ns : List Int), vs = [.ref a] ∧ Tabs cs H ∧ SqL K H a (ns.map V.int) ∧ ns.length ≤ 63 ∧ ∀ H', Q (.bl true) H'
abbrev nmLaw : List Str := ["_law_script", "_law_box", "_law_page_here", "_law_style_here", "_law_sheet", "_law_many", "_law_blank", "_law_typed_here", "_law_turn", "_law_cursor", "_law_steps", "_law_row_here", "_law_cell_here"]
theorem sc_law : FnScope nmLaw ["_law_script"] (defScope s_law) := ⟨rfl, rfl, rfl, by decide +kernel, rfl, by decide +kernel, by decide +kernel⟩
theorem ok_law {f g1 g2 g3 g4 gl gp gt gs gu qp qg qb qcr qcu qcp qca : Addr} {fd fd1 fd2 fd3 fd4 fdl fdp fdt fds fdu zp zg zb zcr zcu zcp zca : FuncData} (T : Txt mg) (hsum : mg "sum" = none) (XU : CuC K U S) (F : Fun K "law" "law" s_law f fd)
    (G1 : FnOk P w K mg base CX0 1 g1 fd1 ["_law_script"] (spBegun K)) (k1 : PySem.W.keepIn K (.ref g1) = true) (b1 : Binds K fd1 ["_law_script"] []) (m1 : mg "_law_begun" = some (.ref g1))
    (G2 : FnOk P w K mg base CX0 1 g2 fd2 ["_law_box", "_law_many"] (spTake)) (k2 : PySem.W.keepIn K (.ref g2) = true) (b2 : Binds K fd2 ["_law_box", "_law_many"] []) (m2 : mg "_law_take" = some (.ref g2))
    (G3 : FnOk P w K mg base CX0 5 g3 fd3 ["_law_box", "_law_most"] (spPageD)) (k3 : PySem.W.keepIn K (.ref g3) = true) (b3 : Binds K fd3 ["_law_box", "_law_most"] []) (m3 : mg "_law_page" = some (.ref g3))
    (G4 : FnOk P w K mg base CX0 2 g4 fd4 ["_law_box"] (spStyleD)) (k4 : PySem.W.keepIn K (.ref g4) = true) (b4 : Binds K fd4 ["_law_box"] []) (m4 : mg "_law_style" = some (.ref g4))
    (GL : FnOk P w K mg base CX0 14 gl fdl ["page", "style"] (spTold K cs begsR)) (kL : PySem.W.keepIn K (.ref gl) = true) (bL : Binds K fdl ["page", "style"] []) (mL : mg "laid" = some (.ref gl))
    (GP : FnOk P w K mg base CX0 18 gp fdp ["_law_box", "_law_sheet", "_law_page_here"] (spParted K cs S)) (kP : PySem.W.keepIn K (.ref gp) = true) (bP : Binds K fdp ["_law_box", "_law_sheet", "_law_page_here"] []) (mP : mg "_law_parted" = some (.ref gp))
    (GT : FnOk P w K mg base CX0 18 gt fdt ["_law_box", "_law_sheet", "_law_page_here"] (spTyped K cs S)) (kT : PySem.W.keepIn K (.ref gt) = true) (bT : Binds K fdt ["_law_box", "_law_sheet", "_law_page_here"] []) (mT : mg "_law_typed" = some (.ref gt))
    (MS : Mk K S gs) (GS : FnOk P w K mg base CX0 12 gs fds ["self", "page", "style"] (spShInit K cs S)) (bS : Binds K fds ["self", "page", "style"] []) (mS : mg "Sheet" = some (.ref S))
    (MU : Mk K U gu) (GU : FnOk P w K mg base CX0 14 gu fdu ["self", "page", "style"] (spCuInit K cs U S)) (bU : Binds K fdu ["self", "page", "style"] []) (mU : mg "Cursor" = some (.ref U))
    (Mp : Meth K S "page" qp) (Gp : FnOk P w K mg base CX0 1 qp zp ["self"] (spShPage K S)) (bp : Binds K zp ["self"] [])
    (Mg : Meth K S "begins" qg) (Gg : FnOk P w K mg base CX0 15 qg zg ["self"] (spShBegins K cs S)) (bg : Binds K zg ["self"] [])
    (Mb : Meth K S "back" qb) (Gb : FnOk P w K mg base CX0 1 qb zb ["self"] (spBackD K cs S)) (bb : Binds K zb ["self"] [])
    (Mcr : Meth K U "right" qcr) (Gcr : FnOk P w K mg base CX0 5 qcr zcr ["self"] (spGo K cs U S fun rows _ _ p => stepR rows p 1)) (bcr : Binds K zcr ["self"] [])
    (Mcu : Meth K U "rub" qcu) (Gcu : FnOk P w K mg base CX0 18 qcu zcu ["self"] (noE (spRub K cs U S R C))) (bcu : Binds K zcu ["self"] [])
    (Mcp : Meth K U "page" qcp) (Gcp : FnOk P w K mg base CX0 2 qcp zcp ["self"] (spCuPage K U S)) (bcp : Binds K zcp ["self"] [])
    (Mca : Meth K U "at" qca) (Gca : FnOk P w K mg base CX0 1 qca zca ["self"] (spAt K U S)) (bca : Binds K zca ["self"] []) :
    FnOk P w K mg base CX0 19 f fd ["_law_script"] (spLaw K cs) := by
  refine F.ok sc_law (fun vs H Q E h => ?_) (fun cdv A outer s H vs Q E hr h => ?_)
  · obtain ⟨a, ns, rfl, _⟩ := h
    rfl
  · obtain ⟨a, ns, rfl, hT, hS, hl, k⟩ := h
    have nd := sc_law.nd
    have hu := hr.units
    have r1 : Room 1 _ := hr.mono (by decide)
    have r2 : Room 2 _ := hr.mono (by decide)
    have r5 : Room 5 _ := hr.mono (by decide)
    have r13 : Room 13 _ := hr.mono (by decide)
    have r14 : Room 14 _ := hr.mono (by decide)
    have r15 : Room 15 _ := hr.mono (by decide)
    have r18 : Room 18 _ := hr.mono (by decide)
    refine ⟨_, (pss_cons (ps_set (i := 1) nd rfl (.inl rfl) (pe_call G1 r1 (by rfl) m1 k1 b1 .nil pass0 (pa_cons (pv 0) pa_nil)))
      (pss_cons (ps_par (i := 2) (j := 3) rfl nd rfl rfl (by decide) rfl rfl (pa_cons (pe_call G3 r5 (by rfl) m3 k3 b3 .nil pass0 (pa_cons (pv 1) (pa_cons pe_int pa_nil))) (pa_cons (pe_call G4 r2 (by rfl) m4 k4 b4 .nil pass0 (pa_cons (pv 1) pa_nil)) pa_nil)) (by rfl))
      (pss_cons (ps_set (i := 4) nd rfl (.inl rfl) (pe_make MS GS r13 (by rfl) mS bS .nil pass0 (pa_cons (pe_lst (pa_cons (pe_tup (pa_cons pe_str pa_nil)) pa_nil)) (pa_cons (pv 3) pa_nil))))
      (pss_cons (ps_set (i := 5) nd rfl (.inl rfl) (pe_call GP r18 (by rfl) mP kP bP .nil pass0 (pa_cons (pv 1) (pa_cons (pv 4) (pa_cons (pv 2) pa_nil)))))
      (pss_cons (ps_setLc (i := 6) (own := [("_law_row_here", 11)]) (g := gName 11) (tt := tYes) rfl nd rfl rfl (sw_true rfl rfl rfl (by decide +kernel)) (pi_list (pv 2)) (blkOk_by (own := [("_law_row_here", 11)]) (N := nmLaw) (sc := defScope s_law) (by decide +kernel)) (fun _ _ _ _ _ => pg_name (i := 11) nd rfl (Or.inl rfl)) (fun _ _ _ _ _ => pts_nil) (fun _ _ _ _ _ => (pe_op (r := rRepU K) op_repU (pe_tup (pa_cons pe_str pa_nil)) (pe_callB (r := rLenK K) call_len_seq (by rfl) T.len PySem.boot_len (pa_cons (pv 11) pa_nil)))))
      (pss_cons (ps_if (pt_cmpR (op_neD hu) (pe_meth0 (pv 4) XU.sh.cS Mp Gp r1 bp .nil pass0) (pv 6) (nomark _)) (pss_one (ps_ret pe_bl)) pss_nil)
      (pss_cons (ps_set (i := 7) nd rfl (.inl rfl) (pe_call GT r18 (by rfl) mT kT bT .nil pass0 (pa_cons (pv 1) (pa_cons (pv 4) (pa_cons (pv 2) pa_nil)))))
      (pss_cons (ps_if (PW.pt (pw_or (pt_cmpR (op_neD hu) (pe_meth0 (pv 4) XU.sh.cS Mp Gp r1 bp .nil pass0) (pv 2) (nomark _)) (pw_or1 (pt_cmpR (op_neD hu) (pe_meth0 (pv 4) XU.sh.cS Mg Gg r15 bg .nil pass0) (pe_call GL r14 (by rfl) mL kL bL .nil pass0 (pa_cons (pv 2) (pa_cons (pv 3) pa_nil))) (nomark _))))) (pss_one (ps_ret pe_bl)) pss_nil)
      (pss_cons (ps_for PassesOwn.never rfl (pi_range1 (by rfl) T.range (pa_cons (pv 7) pa_nil)) (pg_name (i := 8) nd rfl (.inl rfl))
      (pss_one (ps_if (pt_cmpR op_notBl (pe_meth0 (pv 4) XU.sh.cS Mb Gb r1 bb .nil pass0) pe_bl (nomark _)) (pss_one (ps_ret pe_bl)) pss_nil)))
      (pss_cons (ps_if (PW.pt (pw_or (pt_cmpR (op_neD hu) (pe_meth0 (pv 4) XU.sh.cS Mp Gp r1 bp .nil pass0) (pv 6) (nomark _)) (pw_or1 (pt_cmpR (op_neD hu) (pe_meth0 (pv 4) XU.sh.cS Mg Gg r15 bg .nil pass0) (pe_call GL r14 (by rfl) mL kL bL .nil pass0 (pa_cons (pv 6) (pa_cons (pv 3) pa_nil))) (nomark _))))) (pss_one (ps_ret pe_bl)) pss_nil)
      (pss_cons (ps_for PassesOwn.never rfl (pi_range1 (by rfl) T.range (pa_cons (pv 5) pa_nil)) (pg_name (i := 8) nd rfl (.inl rfl))
      (pss_one (ps_if (pt_cmpR op_notBl (pe_meth0 (pv 4) XU.sh.cS Mb Gb r1 bb .nil pass0) pe_bl (nomark _)) (pss_one (ps_ret pe_bl)) pss_nil)))
      (pss_cons (ps_if (PW.pt (pw_or (pt_cmpR (op_neD hu) (pe_meth0 (pv 4) XU.sh.cS Mp Gp r1 bp .nil pass0) (pe_lst (pa_cons (pe_tup (pa_cons pe_str pa_nil)) pa_nil)) (nomark _)) (pw_or1 (pt_cmpR op_notBl (pe_meth0 (pv 4) XU.sh.cS Mb Gb r1 bb .nil pass0) pe_bl (nomark _))))) (pss_one (ps_ret pe_bl)) pss_nil)
      (pss_cons (ps_set (i := 9) nd rfl (.inl rfl) (pe_make MU GU r15 (by rfl) mU bU .nil pass0 (pa_cons (pv 2) (pa_cons (pv 3) pa_nil))))
      (pss_cons (ps_while PassesOwn.never (pt_val (pe_meth0 (pv 9) XU.cC Mcr Gcr r5 bcr .nil pass0))
      (pss_one ps_pass))
      (pss_cons (ps_set (i := 10) nd rfl (.inl rfl) (pe_op op_sub (pe_callB (cr_sum rfl) (by rfl) hsum (by decide +kernel) (pa_cons (pe_lc (own := [("_law_row_here", 11)]) (g := gName 11) (tt := tYes) rfl nd (pi_list (pv 2)) (blkOk_by (own := [("_law_row_here", 11)]) (N := nmLaw) (sc := defScope s_law) (by decide +kernel)) (fun _ _ _ _ _ => pg_name (i := 11) nd rfl (Or.inl rfl)) (fun _ _ _ _ _ => pts_nil) (fun _ _ _ _ _ => (pe_op op_add (pe_op op_sub (pe_op op_add pe_int (pe_callB (r := rLenK K) call_len_seq (by rfl) T.len PySem.boot_len (pa_cons (pv 11) pa_nil))) pe_int) (pe_callB (r := rSum K) (cr_sum rfl) (by rfl) hsum (by decide +kernel) (pa_cons (pe_lc (wi := iTup K (tVar 11)) (own := [("_law_cell_here", 12)]) (g := gName 12) (tt := tYes) rfl nd (pi_tup (pv 11)) (blkOk_by (own := [("_law_cell_here", 12)]) (N := nmLaw) (sc := scSteps) (by decide +kernel)) (fun _ _ _ _ _ => pg_name (i := 12) nd rfl (Or.inl rfl)) (fun _ _ _ _ _ => pts_nil) (fun _ _ _ _ _ => (pe_callB call_len_str (by rfl) T.len PySem.boot_len (pa_cons (pv 12) pa_nil)))) pa_nil))))) pa_nil)) pe_int))
      (pss_cons (ps_for PassesOwn.never rfl (pi_range1 (by rfl) T.range (pa_cons (pv 10) pa_nil)) (pg_name (i := 8) nd rfl (.inl rfl))
      (pss_one (ps_expr (pe_meth0 (pv 9) XU.cC Mcu Gcu r18 bcu .nil pass0))))
      (pss_one (ps_ret (pe_and (pe_cmpR (op_eqD hu) (pe_meth0 (pv 9) XU.cC Mcp Gcp r2 bcp .nil pass0) (pe_lst (pa_cons (pe_tup (pa_cons pe_str pa_nil)) pa_nil)) (nomark _)) (pe_one (pe_cmpR (op_eqD hu) (pe_meth0 (pv 9) XU.cC Mca Gca r1 bca .nil pass0) (pe_tup (pa_cons pe_int (pa_cons pe_int (pa_cons pe_int pa_nil)))) (nomark _)))))))))))))))))))))), ?_⟩
    have szl : (9000 : Nat) < sizeLine := by decide
    refine ⟨_, rfl, a, ns, rfl, hS, hl, fun b l H1 hB1 x1 nb nl => ⟨_, rfl, b, l, 8, rfl, hB1, by decide, by decide, fun pg as rows H3 hB3 x3 np pb pl hp hal hrow hO => ⟨_, rfl, b, l, rfl, hB3, fun st gap least H4 hB4 x4 nq hq g0 g1' l0 l1 => ?_⟩⟩⟩
    have hT1 := (ex_same hT x1).tab
    have hT4 := tabs_kb (tabs_kb hT1 hB1 x3) hB3 x4
    have hp4 := x4 pg _ hp pb pl
    have P4 : RowsAt K H4 as rows := ⟨hal, fun i q r h1 h2 => by
      obtain ⟨ns', st', e1, e2, _⟩ := id hB3
      have e := hrow i q r h1 h2
      exact .inl (.inl (x4 q _ e (ne_of e e1 (by intro z; cases z)) (ne_of e e2 (by intro z; cases z))))⟩
    have S4 : StyleAt K H4 st gap least := ⟨.inl (.inl hq), g0, g1', l0, l1⟩
    clear hp hrow x3 x4 hB3 hB1 x1 nb nl hT1 hT hS hl nq np hal hq g0 g1' l0 l1
    -- the sheet is made
    refine ⟨_, _, rfl, by show 1 ≤ sizeLine; decide, fun tp ntp => ⟨by show 1 ≤ sizeLine; decide, fun ls nls => ⟨_, rfl, fun sh dx nsh ndx nxt => ?_⟩⟩⟩
    have x5 := Ex.laid (o := .tup [V.str ""]) hT4 ntp
    have x6 := x5.trans (Ex.laid (o := .lst [V.ref tp]) x5.tab nls)
    have htp : upd (upd H4 tp (.tup [V.str ""])) ls (.lst [V.ref tp]) tp = some (.tup [V.str ""]) := same_new nls _ _ upd_same
    have hls : upd (upd H4 tp (.tup [V.str ""])) ls (.lst [V.ref tp]) ls = some (.lst [V.ref tp]) := upd_same
    generalize upd (upd H4 tp (.tup [V.str ""])) ls (.lst [V.ref tp]) = H6 at x6 htp hls nsh ndx nxt ⊢
    have x7 : Same H6 (upd (upd H6 dx (.own sh)) sh (.ins S dx [])) := fun c o h => by rw [upd_ne (ne_of_none h nsh), upd_ne (ne_of_none h ndx)]; exact h
    have hc7 : upd (upd H6 dx (.own sh)) sh (.ins S dx []) sh = some (.ins S dx []) := upd_same
    generalize upd (upd H6 dx (.own sh)) sh (.ins S dx []) = H7 at x7 hc7 ⊢
    have e67 := ex_same x6.tab x7
    have e47 := x6.trans e67
    have h1pg : PgOk (mkP 1 (fun _ => 1) noT) := blank_ok (Nat.le_refl 1) (by decide) fun _ _ => ⟨Nat.le_refl 1, by decide⟩
    have P7 : PageAt K H7 ls [tp] (mkP 1 (fun _ => 1) noT) := ⟨SqL.of (x7 _ _ hls), rfl, fun i q r h1 h2 => by
      cases i with
      | zero =>
        cases h1
        cases h2
        exact SqT.of (x7 _ _ htp)
      | succ i => cases h1⟩
    refine ⟨sh, ls, st, dx, [tp], _, gap, least, rfl, e67.tab, hc7, P7, h1pg, ⟨e47.sqT S4.tup, S4.g0, S4.g1, S4.l0, S4.l1⟩, fun rl dl H8 x8 t8 old8 hS nrl ndl => ⟨rfl, ?_⟩⟩
    have e68 : Ex cs H6 H8 := ⟨fun c o h n => x8 c o (x7 c o h) (.inl n) (ne_of_none h nsh), t8, fun c h => same_old x7 (old8 c h), fun c o h n => x8 c o (x7 c o h) (.inr n) (ne_of_none h nsh)⟩
    have o := sitP_new hB4 pb pl hp4 P4 (x6.trans e68) (x6.old _ nsh) (e47.old _ nrl) (e47.old _ ndl) hS
    clear x5 x6 htp hls x7 hc7 e67 e47 h1pg P7 x8 t8 old8 hS nrl ndl e68 nsh ndx nxt nls ntp S4 P4 hp4 hT4 hB4
    -- parted
    refine ⟨_, rfl, _, rfl, _, rfl, b, l, pg, sh, rl, dl, st, as, rows, gap, least, rfl, hO, o, fun ps0 H9 lps o9 hlast _ => ?_⟩
    clear o
    have hbl := blank_eq rows
    have gbl : PgOk (mkP rows.length (lenR rows) noT) := blank_ok hO.pos hO.len fun i hi => ⟨(rowN_ok hO hi).pos, (rowN_ok hO hi).len⟩
    -- the blank page
    refine ⟨_, rfl, pg, rfl, ⟨_, SqL.of o9.pg_⟩, fun D nD => lc_list (xs := as.map V.ref) (fun i H' => ∃ bl : List Addr, Same H9 H' ∧ H' D = some (.lst (bl.map V.ref)) ∧ bl.length = i ∧ RowsAt K H' bl ((rows.take i).map fun r => List.replicate r.length nilS)) ⟨[], same_new nD, upd_same, rfl, rfl, fun i q r e => by cases e⟩ (fun i H' _ x => by
      obtain ⟨_, sm, _⟩ := x
      exact SqL.of (sm _ _ o9.pg_)) ?_ ?_⟩
    · rintro i x H2 hx ⟨bl, sm, hD, lb, RB⟩
      obtain ⟨q, hq, rfl⟩ := get_map hx
      have hi : i < rows.length := by
        have := (List.getElem?_eq_some_iff.mp hq).1
        rw [o9.at_.len] at this
        exact this
      have hr := rowN_get hi
      have rk := rowN_ok hO hi
      have hrow := same_sqT sm (o9.at_.row i q _ hq hr)
      generalize rowN rows i = r at hr rk hrow
      have rp := rk.pos
      have rl6 := rk.len
      have hT : (rows.take (i + 1)).map (fun r => List.replicate r.length nilS) = (rows.take i).map (fun r => List.replicate r.length nilS) ++ [List.replicate r.length nilS] := by
        rw [List.take_add_one, hr]
        simp
      have fin : ∀ (p : Addr) (H4 : Hp), Same H2 H4 → SqT K H4 p (sV (List.replicate r.length nilS)) → ∃ acc, H4 D = some (.lst acc) ∧ acc.length < sizeLine ∧ ∃ bl' : List Addr, Same H9 (upd H4 D (.lst (acc ++ [.ref p]))) ∧ upd H4 D (.lst (acc ++ [.ref p])) D = some (.lst (bl'.map V.ref)) ∧ bl'.length = i + 1 ∧ RowsAt K (upd H4 D (.lst (acc ++ [.ref p]))) bl' ((rows.take (i + 1)).map fun r => List.replicate r.length nilS) := by
        intro p H4 s4 h4
        have l30 := hO.len
        refine ⟨_, s4 _ _ hD, by rw [List.length_map]; omega, bl ++ [p], same_upd (same_trans sm s4) nD, by rw [upd_same, List.map_append]; rfl, by rw [List.length_append, lb]; rfl, ?_⟩
        rw [hT]
        exact ((RB.gw (same_extN s4)).snoc h4).km upd_km fun c e => .inl ⟨_, e ▸ s4 _ _ hD⟩
      refine ⟨rfl, ?_⟩
      refine tYes_go ?_
      refine (⟨by show 1 ≤ sizeLine; decide, fun tp ntp => ⟨_, rfl, q, _, rfl, .inr (same_sqT (same_new ntp) hrow), tp, _, [V.str ""], rfl, rfl, SqT.of upd_same, by simp, ?_, ?_, by decide, fun e => ?_, fun p np => ?_⟩⟩)
      · rw [List.length_map]
        omega
      · rw [List.length_map]
        omega
      · have k1 : r.length = 1 := by
          rw [List.length_map] at e
          omega
        refine fin tp _ (same_new ntp) (.inl (.inl ?_))
        rw [upd_same, k1, nil_str]
        rfl
      · refine fin p _ (same_trans (same_new ntp) (same_new np)) (.inl (.inl ?_))
        rw [upd_same, rep_sV, List.length_map, Int.toNat_natCast]
    · rintro H10 ⟨bl, sm, hD, lb, RB⟩
      rw [List.length_map, o9.at_.len, List.take_of_length_le (Nat.le_refl _), hbl] at RB
      obtain ⟨_, _, hS9⟩ := id o9.sht
      have nmD : ¬ mutP b l rl dl D := fun z => by
        rcases z with z | z | z
        · obtain ⟨us, e⟩ | ⟨_, _, _, e⟩ := box_mob o9.box D z
          · rw [nD] at e
            cases e
          · rw [nD] at e
            cases e
        · have e := hS9.rl_
          rw [← z, nD] at e
          cases e
        · have e := hS9.dl_
          rw [← z, nD] at e
          cases e
      have o10 := o9.ex (ex_same o9.tab sm)
      clear hS9 sm lb nD o9
      obtain ⟨as1, ts1, hS⟩ := id o10.sht
      obtain ⟨dx, hsh⟩ := hS.she
      refine ⟨_, rfl, sh, dx, _, rfl, hsh, rfl, tnil_go ⟨sh, rl, dl, st, as1, _, gap, least, ts1, ps0, _, rfl, hS, fun r nr => ?_⟩⟩
      have x11 := Ex.laid (o := .lst (as1.map V.ref)) o10.tab nr
      have o11 := o10.ex x11
      have pk1 : PgK K (upd H10 r (.lst (as1.map V.ref))) r as1 (mkP rows.length (lenR rows) noT) := ⟨SqL.of upd_same, hS.at_.gw x11.ext⟩
      have hD11 := x11.lst hD
      have RB11 := RB.gw x11.ext
      generalize upd H10 r (.lst (as1.map V.ref)) = H11 at x11 o11 pk1 hD11 RB11 ⊢
      refine ⟨_, rfl, ne_pgK gbl pk1 ⟨SqL.of hD11, RB11⟩ ⟨false, rfl, iteF ?_⟩⟩
      clear o10 hS hsh nr x11 pk1 hD RB
      -- typed
      refine ⟨_, rfl, _, rfl, _, rfl, b, l, pg, sh, rl, dl, st, as, rows, gap, least, ps0, rfl, hO, o11, lps, fun t psT H12 ht lp dr o12 km => ?_⟩
      have hD12 := km D _ hD11 (fun ps z => nomatch z) nmD
      have RB12 := RB11.km km o11.mob
      clear o11 hD11 RB11 km
      obtain ⟨as1, ts1, hS⟩ := id o12.sht
      obtain ⟨dx, hsh⟩ := hS.she
      refine ⟨_, rfl, sh, dx, _, rfl, hsh, rfl, tnil_go ⟨sh, rl, dl, st, as1, _, gap, least, ts1, psT, _, rfl, hS, fun r nr => ?_⟩⟩
      have x13 := Ex.laid (o := .lst (as1.map V.ref)) o12.tab nr
      have o13 := o12.ex x13
      have pk1 : PgK K (upd H12 r (.lst (as1.map V.ref))) r as1 rows := ⟨SqL.of upd_same, hS.at_.gw x13.ext⟩
      have hD13 := x13.lst hD12
      have RB13 := RB12.gw x13.ext
      generalize upd H12 r (.lst (as1.map V.ref)) = H13 at x13 o13 pk1 hD13 RB13 ⊢
      refine ⟨_, rfl, ne_pgK hO pk1 ⟨SqL.of o13.pg_, o13.at_⟩ ⟨false, rfl, iteF ?_⟩⟩
      clear o12 hS hsh nr x13 pk1 hD12 RB12
      obtain ⟨as1, ts1, hS⟩ := id o13.sht
      obtain ⟨dx, hsh⟩ := hS.she
      refine ⟨_, rfl, sh, dx, _, rfl, hsh, rfl, tnil_go ⟨sh, rl, dl, st, as1, _, gap, least, ts1, psT, _, rfl, o13.tab, hS, fun r es H14 x14 nr nes told => ?_⟩⟩
      have o14 := o13.ex x14
      refine ⟨_, rfl, _, rfl, pg, st, as, rows, gap, least, rfl, o14.tab, o14.page, hO, hS.style.gwN x14.ext, fun r2 es2 H15 x15 nr2 nes2 told2 => ?_⟩
      have o15 := o14.ex x15
      have hD15 := x15.lst (x14.lst hD13)
      have RB15 := (RB13.gw x14.ext).gw x15.ext
      refine ne_told (told.ext x15.ext) told2 ⟨false, rfl, iteF ?_⟩
      clear told told2 x14 x15 nr2 nes2 nr nes o13 o14 hS hsh hD13 RB13
      -- taken back
      refine ⟨_, rfl, _, rfl, by omega, by omega, for_range (n := t) (fun i σ H' => ∃ (c8 : Option V) (rows' : List (List Str)) (ps' : List (List (List Str))), σ = [some (.ref a), some (.ref b), some (.ref pg), some (.ref st), some (.ref sh), some (.int (ps0.length : Nat)), some (.ref D), some (.int (t : Nat)), c8, none, none, none, none] ∧ (rows :: psT).drop i = rows' :: ps' ∧ SitP K cs S b l pg sh rl dl st as rows gap least rows' ps' (fun _ => False) H' ∧ H' D = some (.lst (bl.map V.ref)) ∧ RowsAt K H' bl (mkP rows.length (lenR rows) noT))
        ⟨_, rows, psT, rfl, rfl, o15, hD15, RB15⟩ ?_ ?_⟩
      · clear o15 hD15 RB15
        rintro i σ H16 hi ⟨c8, rows', ps', rfl, e, o, hD, RB⟩
        have hne := drop_more e (by rw [List.length_cons, lp]; omega)
        obtain ⟨as1, ts1, hS⟩ := id o.sht
        obtain ⟨dx, hsh⟩ := hS.she
        refine ⟨_, rfl, sh, dx, _, rfl, hsh, rfl, tnil_go ⟨sh, rl, dl, st, as1, rows', gap, least, ts1, ps', _, rfl, o.tab, hS, fun z => absurd z hne, fun r2 p2 e2 as2 ts2 H17 x17 t17 _ hS2 => ?_⟩⟩
        refine ⟨_, _, rfl, rfl, false, rfl, iteF ?_⟩
        subst e2
        exact ⟨_, r2, p2, rfl, drop_next e, o.back x17 t17 hS2, x17 _ _ hD (.inl fun ps z => nomatch z) (fun z => nmD (.inr (.inl z))) (fun z => nmD (.inr (.inr z))), RB.exs x17 hS.rl_ hS.dl_⟩
      clear o15 hD15 RB15
      rintro σ H16 ⟨c8, rows', ps', rfl, e, o, hD, RB⟩
      rw [dr] at e
      injection e with e1 e2
      subst e1 e2
      clear dr
      obtain ⟨as1, ts1, hS⟩ := id o.sht
      obtain ⟨dx, hsh⟩ := hS.she
      refine ⟨_, rfl, sh, dx, _, rfl, hsh, rfl, tnil_go ⟨sh, rl, dl, st, as1, _, gap, least, ts1, ps0, _, rfl, hS, fun r nr => ?_⟩⟩
      have x17 := Ex.laid (o := .lst (as1.map V.ref)) o.tab nr
      have o17 := o.ex x17
      have pk1 : PgK K (upd H16 r (.lst (as1.map V.ref))) r as1 (mkP rows.length (lenR rows) noT) := ⟨SqL.of upd_same, hS.at_.gw x17.ext⟩
      have hD17 := x17.lst hD
      have RB17 := RB.gw x17.ext
      generalize upd H16 r (.lst (as1.map V.ref)) = H17 at x17 o17 pk1 hD17 RB17 ⊢
      refine ⟨_, rfl, ne_pgK gbl pk1 ⟨SqL.of hD17, RB17⟩ ⟨false, rfl, iteF ?_⟩⟩
      clear o hS hsh nr x17 pk1 hD RB
      obtain ⟨as1, ts1, hS⟩ := id o17.sht
      obtain ⟨dx, hsh⟩ := hS.she
      refine ⟨_, rfl, sh, dx, _, rfl, hsh, rfl, tnil_go ⟨sh, rl, dl, st, as1, _, gap, least, ts1, ps0, _, rfl, o17.tab, hS, fun r es H18 x18 nr nes told => ?_⟩⟩
      have o18 := o17.ex x18
      refine ⟨_, rfl, _, rfl, D, st, bl, _, gap, least, rfl, o18.tab, ⟨SqL.of (x18.lst hD17), (RB17.gw x18.ext).len, (RB17.gw x18.ext).row⟩, gbl, hS.style.gwN x18.ext, fun r2 es2 H19 x19 nr2 nes2 told2 => ?_⟩
      have o19 := o18.ex x19
      refine ne_told (told.ext x19.ext) told2 ⟨false, rfl, iteF ?_⟩
      clear told told2 x18 x19 nr2 nes2 nr nes o17 o18 hS hsh hD17 RB17 nmD
      -- the parting taken back
      refine ⟨_, rfl, _, rfl, by omega, by omega, for_range (n := ps0.length) (fun i σ H' => ∃ (c8 : Option V) (rows' : List (List Str)) (ps' : List (List (List Str))), σ = [some (.ref a), some (.ref b), some (.ref pg), some (.ref st), some (.ref sh), some (.int (ps0.length : Nat)), some (.ref D), some (.int (t : Nat)), c8, none, none, none, none] ∧ (mkP rows.length (lenR rows) noT :: ps0).drop i = rows' :: ps' ∧ SitP K cs S b l pg sh rl dl st as rows gap least rows' ps' (fun _ => False) H')
        ⟨_, _, ps0, rfl, rfl, o19⟩ ?_ ?_⟩
      · clear o19
        rintro i σ H20 hi ⟨c8, rows', ps', rfl, e, o⟩
        have hne := drop_more e (by rw [List.length_cons]; omega)
        obtain ⟨as1, ts1, hS⟩ := id o.sht
        obtain ⟨dx, hsh⟩ := hS.she
        refine ⟨_, rfl, sh, dx, _, rfl, hsh, rfl, tnil_go ⟨sh, rl, dl, st, as1, rows', gap, least, ts1, ps', _, rfl, o.tab, hS, fun z => absurd z hne, fun r2 p2 e2 as2 ts2 H17 x17 t17 _ hS2 => ?_⟩⟩
        refine ⟨_, _, rfl, rfl, false, rfl, iteF ?_⟩
        subst e2
        exact ⟨_, r2, p2, rfl, drop_next e, o.back x17 t17 hS2⟩
      clear o19
      rintro σ H20 ⟨c8', rows', ps', rfl, e, o⟩
      obtain ⟨rfl, rfl⟩ := drop_last e hlast
      clear e hlast
      -- the first page, and nothing more
      have g1 : PgOk (mkP 1 (fun _ => 1) noT) := blank_ok (Nat.le_refl 1) (by decide) fun _ _ => ⟨Nat.le_refl 1, by decide⟩
      obtain ⟨as1, ts1, hS⟩ := id o.sht
      obtain ⟨dx, hsh⟩ := hS.she
      refine ⟨_, rfl, sh, dx, _, rfl, hsh, rfl, tnil_go ⟨sh, rl, dl, st, as1, _, gap, least, ts1, [], _, rfl, hS, fun r nr => ?_⟩⟩
      have x21 := Ex.laid (o := .lst (as1.map V.ref)) o.tab nr
      have o21 := o.ex x21
      have pk1 : PgK K (upd H20 r (.lst (as1.map V.ref))) r as1 (mkP 1 (fun _ => 1) noT) := ⟨SqL.of upd_same, hS.at_.gw x21.ext⟩
      generalize upd H20 r (.lst (as1.map V.ref)) = H21 at x21 o21 pk1 ⊢
      refine ⟨by show 1 ≤ sizeLine; decide, fun tp ntp => ⟨by show 1 ≤ sizeLine; decide, fun ls nls => ?_⟩⟩
      have x22 := (Ex.laid (o := .tup [V.str ""]) o21.tab ntp).trans (Ex.laid (o := .lst [V.ref tp]) (Ex.laid o21.tab ntp).tab nls)
      have pk2 := pk_one (K := K) (H := H21) ntp nls
      have pk3 := pk1.ex x22
      have o22 := o21.ex x22
      generalize upd (upd H21 tp (.tup [V.str ""])) ls (.lst [V.ref tp]) = H22 at x22 pk2 pk3 o22 ⊢
      refine ne_pgK g1 pk3 pk2 ⟨false, rfl, iteF ?_⟩
      clear o hS hsh nr x21 pk1 o21 ntp nls x22 pk2 pk3
      obtain ⟨as1, ts1, hS⟩ := id o22.sht
      obtain ⟨dx, hsh⟩ := hS.she
      refine ⟨_, rfl, sh, dx, _, rfl, hsh, rfl, tnil_go ⟨sh, rl, dl, st, as1, _, gap, least, ts1, [], _, rfl, o22.tab, hS, fun _ => ?_, fun r2 p2 e2 => nomatch e2⟩⟩
      refine ⟨_, _, rfl, rfl, false, rfl, iteF ?_⟩
      clear hbl gbl lps ht lp hsh
      -- a cursor
      refine ⟨_, rfl, _, rfl, fun cu dy ncu ndy nyt => ?_⟩
      have s22 := hS.style
      have x23 : Same H22 (upd (upd H22 dy (.own cu)) cu (.ins U dy [])) := fun c o h => by rw [upd_ne (ne_of_none h ncu), upd_ne (ne_of_none h ndy)]; exact h
      have hc23 : upd (upd H22 dy (.own cu)) cu (.ins U dy []) cu = some (.ins U dy []) := upd_same
      have npc : pg ≠ cu := ne_of_none o22.pg_ ncu
      generalize upd (upd H22 dy (.own cu)) cu (.ins U dy []) = H23 at x23 hc23 ⊢
      have e23 := ex_same o22.tab x23
      have o23 := o22.ex e23
      refine ⟨cu, pg, st, dy, as, rows, gap, least, rfl, e23.tab, hc23, o23.page, hO, s22.gwN e23.ext, fun sh2 rl2 dl2 H24 x24 t24 _ hC _ _ _ => ⟨rfl, ?_⟩⟩
      have hpg := x24 _ _ o23.pg_ (.inl fun ps z => nomatch z) npc
      have RP : RowsAt K H24 as rows := o23.at_.km (A := fun c => c = cu) (fun c o h n m => x24 c o h (.inl n) m) fun c e => .inr ⟨_, _, _, e ▸ hc23⟩
      clear o22 hS s22 x23 hc23 e23 o23 x24 ncu ndy nyt
      have ez : rowsT (pageT rows) = rows := rowsT_page hO
      have tz := page_tx hO
      have lz := pageT_len hO
      have npl : pg ≠ cu → True := fun _ => trivial
      -- to the end of the page
      refine ⟨fun m σ H' => ∃ (i : Nat) (c8 : Option V) (as2 ts2 : List Addr) (ps2 : List (List (List Str))), i ≤ (pageT rows).length ∧ m = (pageT rows).length - i ∧ ps2 = [] ∧ σ = [some (.ref a), some (.ref b), some (.ref pg), some (.ref st), some (.ref sh), some (.int (ps0.length : Nat)), some (.ref D), some (.int (t : Nat)), c8, some (.ref cu), none, none, none] ∧ Tabs cs H' ∧ CurD K U S H' cu sh2 rl2 dl2 st as2 rows gap least ts2 ps2 (fun _ => False) (finP (0, 0, 0) ((cl (pageT rows)).take i)) ∧ H' pg = some (.lst (as.map V.ref)) ∧ RowsAt K H' as rows, ⟨_, 0, _, _, _, [], Nat.zero_le _, rfl, rfl, rfl, t24, hC, hpg, RP⟩, ?_⟩
      clear hC RP hpg t24
      rintro m σ H25 ⟨i, c8, as2, ts2, ps2, hi, rfl, rfl, rfl, t25, hC, hpg, RP⟩
      obtain ⟨dy, sq, hcu, _⟩ := hC.cur
      refine ⟨_, rfl, cu, dy, _, rfl, hcu, rfl, tnil_go ⟨cu, rfl, t25, sh2, rl2, dl2, st, as2, rows, gap, least, ts2, [], _, _, hC, fun H26 x26 t26 _ hC2 => ⟨(stepR rows (finP (0, 0, 0) ((cl (pageT rows)).take i)) 1).1, rfl, ?_⟩⟩⟩
      have hC2 : CurD K U S H26 cu sh2 rl2 dl2 st as2 rows gap least ts2 [] (fun _ => False) (stepR rows (finP (0, 0, 0) ((cl (pageT rows)).take i)) 1).2 := hC2
      have hpg2 := x26 _ _ hpg (.inl fun ps z => nomatch z) npc
      have RP2 : RowsAt K H26 as rows := RP.km (ExtC.km x26).w hC.mob
      have bf := beside_fin (z := pageT rows) (i := i) (by rw [← len_clz]; exact hi) 1
      rw [ez, ← len_clz] at bf
      have es : stepR rows (finP (0, 0, 0) ((cl (pageT rows)).take i)) 1 = if i + 1 ≤ (pageT rows).length then (true, finP (0, 0, 0) ((cl (pageT rows)).take (i + 1))) else (false, finP (0, 0, 0) ((cl (pageT rows)).take i)) := by
        unfold stepR
        rw [bf]
        by_cases c : i + 1 ≤ (pageT rows).length
        · rw [if_pos ⟨by omega, by omega⟩, if_pos c]
          rfl
        · rw [if_neg fun z => c (by have := z.2; omega), if_neg c]
      clear bf hC hcu hpg RP t25
      by_cases c : i + 1 ≤ (pageT rows).length
      · rw [if_pos c] at es
        rw [es] at hC2 ⊢
        refine iteT ⟨fun σ' H' => ∃ (c8 : Option V) (as2 ts2 : List Addr) (ps2 : List (List (List Str))), ps2 = [] ∧ σ' = [some (.ref a), some (.ref b), some (.ref pg), some (.ref st), some (.ref sh), some (.int (ps0.length : Nat)), some (.ref D), some (.int (t : Nat)), c8, some (.ref cu), none, none, none] ∧ Tabs cs H' ∧ CurD K U S H' cu sh2 rl2 dl2 st as2 rows gap least ts2 ps2 (fun _ => False) (finP (0, 0, 0) ((cl (pageT rows)).take (i + 1))) ∧ H' pg = some (.lst (as.map V.ref)) ∧ RowsAt K H' as rows, fun σ' H' h => ?_, _, _, _, [], rfl, rfl, t26, hC2, hpg2, RP2⟩
        obtain ⟨c8, as2, ts2, ps2, e1, e2, e3, e4, e5, e6⟩ := h
        exact ⟨_, by omega, i + 1, c8, as2, ts2, ps2, c, rfl, e1, e2, e3, e4, e5, e6⟩
      · rw [if_neg c] at es
        rw [es] at hC2 ⊢
        refine iteF ?_
        have ei : i = (pageT rows).length := by omega
        subst ei
        clear es c
        have hC := hC2
        have hpg := hpg2
        have RP := RP2
        clear hC2 hpg2 RP2
        rw [len_clz, List.take_length] at hC
        -- how many signs it has
        refine ⟨_, rfl, pg, rfl, ⟨_, SqL.of hpg⟩, fun D2 nD2 => lc_list (xs := as.map V.ref) (fun j H' => Same H26 H' ∧ H' D2 = some (.lst (((rows.take j).map rowSum).map V.int))) ⟨same_new nD2, upd_same⟩ (fun j H' _ x => SqL.of (x.1 _ _ hpg)) ?_ ?_⟩
        · rintro j x H2 hx ⟨sm, hD⟩
          obtain ⟨q, hq, rfl⟩ := get_map hx
          have hj : j < rows.length := by
            have := (List.getElem?_eq_some_iff.mp hq).1
            rw [RP.len] at this
            exact this
          have hr := rowN_get hj
          have rk := rowN_ok hO hj
          have hrow := same_sqT sm (RP.row j q _ hq hr)
          generalize rowN rows j = r at hr rk hrow
          refine ⟨rfl, tYes_go ?_⟩
          refine ⟨_, rfl, q, _, rfl, .inr hrow, _, _, rfl, rfl, _, _, rfl, rfl, _, rfl, q, rfl, ⟨_, hrow⟩, fun D3 nD3 => lc_tup (xs := sV r) (fun n H' => Same H2 H' ∧ H' D3 = some (.lst (((r.take n).map fun z => ((z.length : Nat) : Int)).map V.int))) ⟨same_new nD3, upd_same⟩ (fun n H' _ x => same_sqT x.1 hrow) ?_ ?_⟩
          · rintro n x H3 hx ⟨sm3, hD3⟩
            obtain ⟨z, hz, rfl⟩ := get_map hx
            have zl := (rk.cells z (List.mem_of_getElem? hz)).len
            have nl := (List.getElem?_eq_some_iff.mp hz).1
            have r6 := rk.len
            refine ⟨rfl, tYes_go ?_⟩
            refine ⟨_, rfl, z, rfl, by omega, _, hD3, ?_, same_upd sm3 nD3, ?_⟩
            · rw [List.length_map, List.length_map, List.length_take]
              omega
            · rw [upd_same, List.take_add_one, hz]
              simp
          · rintro H3 ⟨sm3, hD3⟩
            have el : (sV r).length = r.length := List.length_map _
            rw [el, List.take_of_length_le (Nat.le_refl _)] at hD3
            refine ⟨D3, _, rfl, SqL.of hD3, _, _, rfl, rfl, _, sm3 _ _ hD, ?_, same_upd (same_trans sm sm3) nD2, ?_⟩
            · have l30 := hO.len
              rw [List.length_map, List.length_map, List.length_take]
              omega
            · have ev : (fun i j : Int => V.int (i + j)) (1 + (((sV r).length : Nat) : Int) - 1) (r.map fun z => ((z.length : Nat) : Int)).sum = V.int (rowSum r) := by
                rw [el]
                rfl
              rw [upd_same, List.take_add_one, hr, Option.toList_some, List.map_append, List.map_append]
              exact congrArg (fun v => some (HO.lst (_ ++ [v]))) ev
        · rintro H27 ⟨sm, hD⟩
          have el : (as.map V.ref).length = rows.length := by rw [List.length_map, RP.len]
          rw [el, List.take_of_length_le (Nat.le_refl _)] at hD
          have x27 := ex_same t26 sm
          have hC27 := hC.gw x27.ext
          refine ⟨D2, _, rfl, SqL.of hD, _, _, rfl, rfl, ?_⟩
          rw [show (fun i j : Int => V.int (i - j)) (rows.map rowSum).sum 1 = V.int ((pageT rows).length : Nat) from congrArg V.int (page_len hO)]
          have t27 := x27.tab
          clear hC hD el sm nD2 RP hpg hC2 x26 t26 x27
          -- rubbed out
          refine ⟨_, rfl, _, rfl, by omega, by omega, for_range (n := (pageT rows).length) (fun i σ H' => ∃ (c8 : Option V) (as2 ts2 : List Addr) (ps2 : List (List (List Str))), σ = [some (.ref a), some (.ref b), some (.ref pg), some (.ref st), some (.ref sh), some (.int (ps0.length : Nat)), some (.ref D), some (.int (t : Nat)), c8, some (.ref cu), some (.int ((pageT rows).length : Nat)), none, none] ∧ ps2.length = i ∧ Tabs cs H' ∧ CurD K U S H' cu sh2 rl2 dl2 st as2 (rowsT (zT (pageT rows) ((pageT rows).length - i))) gap least ts2 ps2 (fun _ => False) (finP (0, 0, 0) (cl (zT (pageT rows) ((pageT rows).length - i)))))
            ⟨c8, as2, ts2, [], rfl, rfl, t27, by rw [Nat.sub_zero, zT_all, ez]; exact hC27⟩ ?_ ?_⟩
          · clear hC27 t27
            rintro i σ H28 hi ⟨c8, as2, ts2, ps2, rfl, lp2, t28, hC⟩
            obtain ⟨j, hj⟩ : ∃ j, (pageT rows).length - i = j + 1 := ⟨(pageT rows).length - i - 1, by omega⟩
            have hj2 : (pageT rows).length - (i + 1) = j := by omega
            rw [hj2]
            rw [hj] at hC
            have gz : PgOk (rowsT (zT (pageT rows) (j + 1))) := by rw [← hj]; exact pg_take tz (by rw [ez]; exact hO) (by omega)
            have gy : PgOk (rowsT (zT (pageT rows) j)) := by rw [← hj2]; exact pg_take tz (by rw [ez]; exact hO) (by omega)
            have jl : j < (cl (pageT rows)).length := by rw [← len_clz]; omega
            have ly : (cl (zT (pageT rows) j)).length = j := by rw [cl_zT, List.length_take]; omega
            have lzz : (cl (zT (pageT rows) (j + 1))).length = j + 1 := by rw [cl_zT, List.length_take]; omega
            obtain ⟨x, hx⟩ : ∃ x, (cl (pageT rows))[j]? = some x := ⟨_, List.getElem?_eq_getElem jl⟩
            have ecl : cl (zT (pageT rows) (j + 1)) = cl (zT (pageT rows) j) ++ [x] := by rw [cl_zT, cl_zT, List.take_add_one, hx]; rfl
            have et : (cl (zT (pageT rows) (j + 1))).take j = cl (zT (pageT rows) j) := by rw [ecl]; exact List.take_left' ly
            have et1 : (cl (zT (pageT rows) (j + 1))).take (j + 1) = cl (zT (pageT rows) (j + 1)) := List.take_of_length_le (by omega)
            have bf := beside_fin (z := zT (pageT rows) (j + 1)) (i := j + 1) (by omega) (-1)
            rw [if_pos ⟨by omega, by omega⟩, show (((j + 1 : Nat) : Int) + (-1)).toNat = j by omega, et, et1] at bf
            have rd := (rub_done (z := zT (pageT rows) (j + 1)) (y := zT (pageT rows) j) (s := ⟨#[x]⟩) (i := j) (x := x) gz (tx_take tz j) (by omega) rfl (by rw [ecl, List.take_of_length_le (by omega), List.drop_of_length_le (by omega)])).1 gy
            rw [et, et1] at rd
            obtain ⟨dy, sq, hcu, _⟩ := hC.cur
            refine ⟨_, rfl, cu, dy, _, rfl, hcu, rfl, tnil_go ⟨cu, rfl, t28, sh2, rl2, dl2, st, as2, _, gap, least, ts2, ps2, _, _, hC, by omega, fun q rows' hq hd as' ts' H' kn t' _ hC' => ?_, fun h => ?_⟩⟩
            · rw [bf] at hq
              cases hq
              rw [rd] at hd
              cases hd
              exact ⟨_, as', ts', _, rfl, by rw [List.length_cons, lp2], t', hC'⟩
            · have := h _ bf
              rw [rd] at this
              cases this
          clear hC27 t27
          rintro σ H28 ⟨c8, as2, ts2, ps2, rfl, _, t28, hC⟩
          rw [Nat.sub_self] at hC
          have e0 : rowsT (zT (pageT rows) 0) = mkP 1 (fun _ => 1) noT := by
            have : zT (pageT rows) 0 = nilS := str_ext (by rw [cl_zT]; rfl)
            rw [this]
            decide +kernel
          have e1 : cl (zT (pageT rows) 0) = [] := by rw [cl_zT]; rfl
          rw [e0, e1] at hC
          obtain ⟨dy, sq, hcu, _⟩ := id hC.cur
          refine ⟨_, rfl, cu, dy, _, rfl, hcu, rfl, tnil_go ⟨cu, rfl, sh2, rl2, dl2, st, as2, _, gap, least, ts2, ps2, _, _, hC, fun r nr => ?_⟩⟩
          have x29 := Ex.laid (o := .lst (as2.map V.ref)) t28 nr
          have pk1 : PgK K (upd H28 r (.lst (as2.map V.ref))) r as2 (mkP 1 (fun _ => 1) noT) := ⟨SqL.of upd_same, hC.sht.at_.gw x29.ext⟩
          have hC29 := hC.gw x29.ext
          generalize upd H28 r (.lst (as2.map V.ref)) = H29 at x29 pk1 hC29 ⊢
          refine ⟨by show 1 ≤ sizeLine; decide, fun tp ntp => ⟨by show 1 ≤ sizeLine; decide, fun ls nls => ?_⟩⟩
          have x30 := (Ex.laid (o := .tup [V.str ""]) x29.tab ntp).trans (Ex.laid (o := .lst [V.ref tp]) (Ex.laid x29.tab ntp).tab nls)
          have pk2 := pk_one (K := K) (H := H29) ntp nls
          have pk3 := pk1.ex x30
          have hC30 := hC29.gw x30.ext
          generalize upd (upd H29 tp (.tup [V.str ""])) ls (.lst [V.ref tp]) = H30 at x30 pk2 pk3 hC30 ⊢
          refine eq_pgK g1 pk3 pk2 ⟨true, rfl, iteT ?_⟩
          obtain ⟨dy, sq2, hcu, _⟩ := id hC30.cur
          refine ⟨_, rfl, cu, dy, _, rfl, hcu, rfl, tnil_go ⟨cu, rfl, sh2, rl2, dl2, st, as2, _, gap, least, ts2, ps2, _, _, hC30, fun sp hsp => ?_⟩⟩
          refine ⟨by show 3 ≤ sizeLine; decide, fun tq ntq => ?_⟩
          refine eq_v3K (same_sqT (same_new ntq) hsp) (SqT.of upd_same) ?_
          exact k _
end
end TGK


namespace TG
open PySem PySem.Spec PyProof.Rows L2 TGK
/-! ### the head -/
theorem const_of {K : PySem.W.Frag} (h : constB K = true) : ∀ H, SqT K H (He.ga K "FIRST") (TGK.v3 (0, 0, 0)) := fun H => by
  unfold constB at h
  split at h
  · rename_i its n sl e
    split at h
    · rename_i e2
      refine .inr ⟨_, its, n, e, rfl, rfl, ?_, ?_⟩
      · have : its.toList.length = 3 := by rw [e2]; rfl
        have : its.size = 3 := by simpa using this
        rw [this]
        decide
      · rw [e2]
        exact .cons ⟨_, rfl⟩ (.cons ⟨_, rfl⟩ (.cons ⟨_, rfl⟩ .nil))
    · cases h
  · cases h
theorem subL {K : PySem.W.Frag} {q : Addr × Addr} (h : q ∈ tfB.map (He.cT K)) : q ∈ tfL.map (He.cT K) := by
  unfold tfL
  rw [List.map_append]
  exact List.mem_append_left _ h
theorem memL {K : PySem.W.Frag} {r : He.Defn} (h : r ∈ lmL) : He.cT K r ∈ tfL.map (He.cT K) := by
  unfold tfL
  rw [List.map_append]
  exact List.mem_append_right _ (List.mem_map_of_mem h)
theorem fun_of {K : PySem.W.Frag} {x : Str} {st : Stmt} {f : Addr} {fd : FuncData} (F : FunD K x x (defArgs st) (defBody st) (defScope st) [] [] f fd) : Fun K x x st f fd := by
  obtain ⟨⟨oc, od, dV, kV, doc, pm, an, cdv, ct, osl, e, lk, hcd, hd, _⟩, kp⟩ := F
  rcases hd with ⟨_, hd⟩ | ⟨hd, _⟩
  · subst hd
    exact ⟨⟨oc, od, kV, doc, pm, an, cdv, ct, osl, e, lk, hcd⟩, kp⟩
  · exact absurd rfl hd
/-- a def of the top, by its name -/
structure At (K : PySem.W.Frag) (mg : Str → Option Value) (x : Str) (st : Stmt) (fd : FuncData) : Prop where
  mg_ : mg x = some (.ref (He.ga K x))
  fn : Fun K x x st (He.ga K x) fd
theorem At.kp {K : PySem.W.Frag} {mg : Str → Option Value} {x : Str} {st : Stmt} {fd : FuncData} (a : At K mg x st fd) : PySem.W.keepIn K (.ref (He.ga K x)) = true := a.fn.kp
theorem fun_ofm {K : PySem.W.Frag} {x q : Str} {st : Stmt} {f : Addr} {fd : FuncData} (F : FunD K x q (defArgs st) (defBody st) (defScope st) [] [] f fd) : Fun K x q st f fd := by
  obtain ⟨⟨oc, od, dV, kV, doc, pm, an, cdv, ct, osl, e, lk, hcd, hd, _⟩, kp⟩ := F
  rcases hd with ⟨_, hd⟩ | ⟨hd, _⟩
  · subst hd
    exact ⟨⟨oc, od, kV, doc, pm, an, cdv, ct, osl, e, lk, hcd⟩, kp⟩
  · exact absurd rfl hd
theorem atm_of {fa : List He.Fa} {fn : List He.DefD} {K : PySem.W.Frag} (c : He.SaysD fa fn K) {k i : Nat} {C m : Str} (hd : dm k i C m ∈ fn) : ∃ fd, Fun K m (C ++ "." ++ m) (mth k i) (He.ma K (He.ga K C) m) fd := by
  obtain ⟨fd, F⟩ := c.defs hd
  exact ⟨fd, fun_ofm F⟩
theorem at_of {fa : List He.Fa} {fn : List He.DefD} {K : PySem.W.Frag} {h : Heap} {mg : Str → Option Value} (X : K.In h) (G : h.Ns mainGlobals mg) (c : He.SaysD fa fn K) {i : Nat} {x : Str} (hd : dd i x ∈ fn) (hf : He.Fa.glo x ∈ fa) : ∃ fd, At K mg x (top i) fd := by
  obtain ⟨fd, F⟩ := c.defs hd
  exact ⟨fd, He.glo_ok X G (c.facts hf), fun_of F⟩
theorem code_of {K : PySem.W.Frag} {mg : Str → Option Value} {x : Str} {st : Stmt} {fd : FuncData} (a : At K mg x st fd) : fd.code = .ref (He.cT K (x, none)).1 := by
  obtain ⟨oc, od, kV, doc, pm, an, cdv, ct, osl, e, lk, hcd⟩ := a.fn.ex
  obtain ⟨c, hc⟩ := He.codeIn_ref hcd
  have e2 : fd.code = .ref c := by rw [e, ← hc]
  have e3 : He.codeOf K (x, none) = c := He.codeOf_eq (p := (x, none)) lk e2
  show fd.code = .ref (He.codeOf K (x, none))
  rw [e3, e2]
theorem tab_conv {base : Heap} {mg : Str → Option Value} {c P : Addr} (t : LamX.TabB base mg c P) : GxR.TabB base mg c P := ⟨t.code, t.bm, t.gP⟩

theorem txt_of {K : PySem.W.Frag} {h : Heap} {mg : Str → Option Value} (X : K.In h) (G : h.Ns mainGlobals mg) (c : He.SaysD faL fnL K) : Txt mg := by
  constructor
  all_goals exact He.free_ok X G (c.facts (by simp [faL]))
theorem consts_of {K : PySem.W.Frag} {h : Heap} {mg : Str → Option Value} (X : K.In h) (G : h.Ns mainGlobals mg) (c : He.SaysD faL fnL K) : Consts mg := by
  constructor
  all_goals exact He.int_ok X G (c.facts (by simp [faL]))
theorem triples_nil : TriplesOk (#[] : Array Value).toList := trivial
theorem facts {w : World} {K : PySem.W.Frag} {h : Heap} {mg : Str → Option Value} {f : Addr} (X : K.In h) (G : h.Ns mainGlobals mg) (hfa : mg ("law" : Str) = some (.ref f)) (c : He.SaysX faL fnL [] tfL exC w h K) :
    LamX.LawAtS PySem.Challenge.rw_tabgrow_k13_whole_in_whatever_order_it_i w K CX0 19 63 "_law_script" mg f h := by
  have cd := c.t.d
  have T := txt_of X G cd
  have N := consts_of X G cd
  obtain ⟨me, mf⟩ := He.ba c.more
  have hz : mg "zip" = none := He.free_ok X G (cd.facts (by simp [faL]))
  have hz_sum : mg "sum" = none := He.free_ok X G (cd.facts (by simp [faL]))
  obtain ⟨d17, a17⟩ := at_of X G cd (i := 17) (x := "is_whole") (by simp [fnL]) (by simp [faL])
  have b17 := a17.fn.binds (ps := ["value", "low", "high"]) fun _ _ _ _ _ _ us hl => match us, hl with | [_, _, _], _ => rfl
  obtain ⟨d18, a18⟩ := at_of X G cd (i := 18) (x := "is_sign") (by simp [fnL]) (by simp [faL])
  have b18 := a18.fn.binds (ps := ["sign"]) fun _ _ _ _ _ _ us hl => match us, hl with | [_], _ => rfl
  obtain ⟨d19, a19⟩ := at_of X G cd (i := 19) (x := "is_text_of_signs") (by simp [fnL]) (by simp [faL])
  have b19 := a19.fn.binds (ps := ["value", "most"]) fun _ _ _ _ _ _ us hl => match us, hl with | [_, _], _ => rfl
  obtain ⟨d20, a20⟩ := at_of X G cd (i := 20) (x := "is_filled") (by simp [fnL]) (by simp [faL])
  have b20 := a20.fn.binds (ps := ["value", "most"]) fun _ _ _ _ _ _ us hl => match us, hl with | [_, _], _ => rfl
  obtain ⟨d21, a21⟩ := at_of X G cd (i := 21) (x := "is_row") (by simp [fnL]) (by simp [faL])
  have b21 := a21.fn.binds (ps := ["value"]) fun _ _ _ _ _ _ us hl => match us, hl with | [_], _ => rfl
  obtain ⟨d22, a22⟩ := at_of X G cd (i := 22) (x := "first_misfit") (by simp [fnL]) (by simp [faL])
  have b22 := a22.fn.binds (ps := ["rows"]) fun _ _ _ _ _ _ us hl => match us, hl with | [_], _ => rfl
  obtain ⟨d23, a23⟩ := at_of X G cd (i := 23) (x := "check_page") (by simp [fnL]) (by simp [faL])
  have b23 := a23.fn.binds (ps := ["page"]) fun _ _ _ _ _ _ us hl => match us, hl with | [_], _ => rfl
  obtain ⟨d24, a24⟩ := at_of X G cd (i := 24) (x := "check_style") (by simp [fnL]) (by simp [faL])
  have b24 := a24.fn.binds (ps := ["style"]) fun _ _ _ _ _ _ us hl => match us, hl with | [_], _ => rfl
  obtain ⟨d26, a26⟩ := at_of X G cd (i := 26) (x := "stretches") (by simp [fnL]) (by simp [faL])
  have b26 := a26.fn.binds (ps := ["page", "style"]) fun _ _ _ _ _ _ us hl => match us, hl with | [_, _], _ => rfl
  obtain ⟨d27, a27⟩ := at_of X G cd (i := 27) (x := "closed_runs") (by simp [fnL]) (by simp [faL])
  have b27 := a27.fn.binds (ps := ["page", "column"]) fun _ _ _ _ _ _ us hl => match us, hl with | [_, _], _ => rfl
  obtain ⟨d28, a28⟩ := at_of X G cd (i := 28) (x := "is_closed") (by simp [fnL]) (by simp [faL])
  have b28 := a28.fn.binds (ps := ["row", "column"]) fun _ _ _ _ _ _ us hl => match us, hl with | [_, _], _ => rfl
  obtain ⟨d29, a29⟩ := at_of X G cd (i := 29) (x := "described") (by simp [fnL]) (by simp [faL])
  have b29 := a29.fn.binds (ps := ["page", "style", "column", "begin", "end"]) fun _ _ _ _ _ _ us hl => match us, hl with | [_, _, _, _, _], _ => rfl
  obtain ⟨d30, a30⟩ := at_of X G cd (i := 30) (x := "stands_right") (by simp [fnL]) (by simp [faL])
  have b30 := a30.fn.binds (ps := ["cells"]) fun _ _ _ _ _ _ us hl => match us, hl with | [_], _ => rfl
  obtain ⟨d31, a31⟩ := at_of X G cd (i := 31) (x := "is_figures") (by simp [fnL]) (by simp [faL])
  have b31 := a31.fn.binds (ps := ["cell"]) fun _ _ _ _ _ _ us hl => match us, hl with | [_], _ => rfl
  obtain ⟨d33, a33⟩ := at_of X G cd (i := 33) (x := "laid") (by simp [fnL]) (by simp [faL])
  have b33 := a33.fn.binds (ps := ["page", "style"]) fun _ _ _ _ _ _ us hl => match us, hl with | [_, _], _ => rfl
  obtain ⟨d34, a34⟩ := at_of X G cd (i := 34) (x := "closed_cells") (by simp [fnL]) (by simp [faL])
  have b34 := a34.fn.binds (ps := ["page", "style"]) fun _ _ _ _ _ _ us hl => match us, hl with | [_, _], _ => rfl
  obtain ⟨d35, a35⟩ := at_of X G cd (i := 35) (x := "left_ends") (by simp [fnL]) (by simp [faL])
  have b35 := a35.fn.binds (ps := ["closed"]) fun _ _ _ _ _ _ us hl => match us, hl with | [_], _ => rfl
  obtain ⟨d36, a36⟩ := at_of X G cd (i := 36) (x := "begins_of") (by simp [fnL]) (by simp [faL])
  have b36 := a36.fn.binds (ps := ["row", "closed", "gap"]) fun _ _ _ _ _ _ us hl => match us, hl with | [_, _, _], _ => rfl
  obtain ⟨d39, a39⟩ := at_of X G cd (i := 39) (x := "check_number") (by simp [fnL]) (by simp [faL])
  have b39 := a39.fn.binds (ps := ["number", "last"]) fun _ _ _ _ _ _ us hl => match us, hl with | [_, _], _ => rfl
  obtain ⟨d40, a40⟩ := at_of X G cd (i := 40) (x := "check_sign") (by simp [fnL]) (by simp [faL])
  have b40 := a40.fn.binds (ps := ["sign"]) fun _ _ _ _ _ _ us hl => match us, hl with | [_], _ => rfl
  obtain ⟨d41, a41⟩ := at_of X G cd (i := 41) (x := "check_fits") (by simp [fnL]) (by simp [faL])
  have b41 := a41.fn.binds (ps := ["many", "rows"]) fun _ _ _ _ _ _ us hl => match us, hl with | [_, _], _ => rfl
  obtain ⟨d42, a42⟩ := at_of X G cd (i := 42) (x := "halves") (by simp [fnL]) (by simp [faL])
  have b42 := a42.fn.binds (ps := ["rows", "number", "cell", "place"]) fun _ _ _ _ _ _ us hl => match us, hl with | [_, _, _, _], _ => rfl
  obtain ⟨d43, a43⟩ := at_of X G cd (i := 43) (x := "joined") (by simp [fnL]) (by simp [faL])
  have b43 := a43.fn.binds (ps := ["ahead", "behind"]) fun _ _ _ _ _ _ us hl => match us, hl with | [_, _], _ => rfl
  obtain ⟨d44, a44⟩ := at_of X G cd (i := 44) (x := "without_first") (by simp [fnL]) (by simp [faL])
  have b44 := a44.fn.binds (ps := ["row"]) fun _ _ _ _ _ _ us hl => match us, hl with | [_], _ => rfl
  obtain ⟨d45, a45⟩ := at_of X G cd (i := 45) (x := "moved") (by simp [fnL]) (by simp [faL])
  have b45 := a45.fn.binds (ps := ["before", "after", "others"]) fun _ _ _ _ _ _ us hl => match us, hl with | [_, _, _], _ => rfl
  obtain ⟨d49, a49⟩ := at_of X G cd (i := 49) (x := "row_spots") (by simp [fnL]) (by simp [faL])
  have b49 := a49.fn.binds (ps := ["row"]) fun _ _ _ _ _ _ us hl => match us, hl with | [_], _ => rfl
  obtain ⟨d50, a50⟩ := at_of X G cd (i := 50) (x := "page_spots") (by simp [fnL]) (by simp [faL])
  have b50 := a50.fn.binds (ps := ["page"]) fun _ _ _ _ _ _ us hl => match us, hl with | [_], _ => rfl
  obtain ⟨d52, a52⟩ := at_of X G cd (i := 52) (x := "_law_begun") (by simp [fnL]) (by simp [faL])
  have b52 := a52.fn.binds (ps := ["_law_script"]) fun _ _ _ _ _ _ us hl => match us, hl with | [_], _ => rfl
  obtain ⟨d53, a53⟩ := at_of X G cd (i := 53) (x := "_law_take") (by simp [fnL]) (by simp [faL])
  have b53 := a53.fn.binds (ps := ["_law_box", "_law_many"]) fun _ _ _ _ _ _ us hl => match us, hl with | [_, _], _ => rfl
  obtain ⟨d54, a54⟩ := at_of X G cd (i := 54) (x := "_law_alike") (by simp [fnL]) (by simp [faL])
  have b54 := a54.fn.binds (ps := ["_law_found", "_law_due"]) fun _ _ _ _ _ _ us hl => match us, hl with | [_, _], _ => rfl
  obtain ⟨d55, a55⟩ := at_of X G cd (i := 55) (x := "_law_sign") (by simp [fnL]) (by simp [faL])
  have b55 := a55.fn.binds (ps := ["_law_box"]) fun _ _ _ _ _ _ us hl => match us, hl with | [_], _ => rfl
  obtain ⟨d56, a56⟩ := at_of X G cd (i := 56) (x := "_law_cell") (by simp [fnL]) (by simp [faL])
  have b56 := a56.fn.binds (ps := ["_law_box", "_law_sort"]) fun _ _ _ _ _ _ us hl => match us, hl with | [_, _], _ => rfl
  obtain ⟨d57, a57⟩ := at_of X G cd (i := 57) (x := "_law_row") (by simp [fnL]) (by simp [faL])
  have b57 := a57.fn.binds (ps := ["_law_box", "_law_sorts", "_law_many"]) fun _ _ _ _ _ _ us hl => match us, hl with | [_, _, _], _ => rfl
  obtain ⟨d58, a58⟩ := at_of X G cd (i := 58) (x := "_law_page") (by simp [fnL]) (by simp [faL])
  have b58 := a58.fn.binds (ps := ["_law_box", "_law_most"]) fun _ _ _ _ _ _ us hl => match us, hl with | [_, _], _ => rfl
  obtain ⟨d59, a59⟩ := at_of X G cd (i := 59) (x := "_law_style") (by simp [fnL]) (by simp [faL])
  have b59 := a59.fn.binds (ps := ["_law_box"]) fun _ _ _ _ _ _ us hl => match us, hl with | [_], _ => rfl
  obtain ⟨d60, a60⟩ := at_of X G cd (i := 60) (x := "_law_typed") (by simp [fnL]) (by simp [faL])
  have b60 := a60.fn.binds (ps := ["_law_box", "_law_sheet", "_law_page_here"]) fun _ _ _ _ _ _ us hl => match us, hl with | [_, _, _], _ => rfl
  obtain ⟨d61, a61⟩ := at_of X G cd (i := 61) (x := "_law_parted") (by simp [fnL]) (by simp [faL])
  have b61 := a61.fn.binds (ps := ["_law_box", "_law_sheet", "_law_page_here"]) fun _ _ _ _ _ _ us hl => match us, hl with | [_, _, _], _ => rfl
  obtain ⟨d62, a62⟩ := at_of X G cd (i := 62) (x := "law") (by simp [fnL]) (by simp [faL])
  have b62 := a62.fn.binds (ps := ["_law_script"]) fun _ _ _ _ _ _ us hl => match us, hl with | [_], _ => rfl
  have hf : ∀ {x : He.Fa}, x ∈ faL → He.Fa.ok K x = true := fun h => cd.facts h
  have Xc : TGK.CuC K (He.ga K "Cursor") (He.ga K "Sheet") := ⟨⟨He.cls_ok (hf (x := .cls "Sheet") (by simp [faL])), He.noat_ok (hf (x := .noat "Sheet" "rows") (by simp [faL])), He.noat_ok (hf (x := .noat "Sheet" "style") (by simp [faL])), He.noat_ok (hf (x := .noat "Sheet" "deeds") (by simp [faL]))⟩, He.cls_ok (hf (x := .cls "Cursor") (by simp [faL])), He.noat_ok (hf (x := .noat "Cursor" "sheet") (by simp [faL])), He.noat_ok (hf (x := .noat "Cursor" "spot") (by simp [faL]))⟩
  have eR := He.exc_ok (hf (x := .exc "BadRow") (by simp [faL]))
  have eC := He.exc_ok (hf (x := .exc "BadCell") (by simp [faL]))
  have Er : TGK.SErr K mg (He.ga K "BadRow") (He.ga K "BadCell") (He.ga K "GrowError") := ⟨⟨He.glo_ok X G (hf (x := .glo "BadRow") (by simp [faL])), eR.1, eR.2.1, eR.2.2.1, eR.2.2.2, He.exm_ok (hf (x := .exm "BadRow" "GrowError" true) (by simp [faL]))⟩, ⟨He.glo_ok X G (hf (x := .glo "BadCell") (by simp [faL])), eC.1, eC.2.1, eC.2.2.1, eC.2.2.2, He.exm_ok (hf (x := .exm "BadCell" "GrowError" true) (by simp [faL]))⟩, He.glo_ok X G (hf (x := .glo "GrowError") (by simp [faL]))⟩
  have eT : ∃ t, mg "TAB" = some (.str tabS t) := He.str_ok X G (hf (x := .str "TAB" "\t") (by simp [faL]))
  have FT : TGK.FirstT K mg := ⟨He.ga K "FIRST", He.glo_ok X G (hf (x := .glo "FIRST") (by simp [faL])), const_of mf⟩
  have gS : mg "Sheet" = some (.ref (He.ga K "Sheet")) := He.glo_ok X G (hf (x := .glo "Sheet") (by simp [faL]))
  have gC : mg "Cursor" = some (.ref (He.ga K "Cursor")) := He.glo_ok X G (hf (x := .glo "Cursor") (by simp [faL]))
  obtain ⟨d_Sheet_init, a_Sheet_init⟩ := atm_of cd (k := 38) (i := 0) (C := "Sheet") (m := "__init__") (by simp [fnL])
  have b_Sheet_init := a_Sheet_init.binds (ps := ["self", "page", "style"]) fun _ _ _ _ _ _ us hl => match us, hl with | [_, _, _], _ => rfl
  have mk_Sheet : Mk K (He.ga K "Sheet") (He.ma K (He.ga K "Sheet") "__init__") := He.mkr_ok (hf (x := .mkr "Sheet") (by simp [faL]))
  obtain ⟨d_Sheet_strike, a_Sheet_strike⟩ := atm_of cd (k := 38) (i := 4) (C := "Sheet") (m := "strike") (by simp [fnL])
  have b_Sheet_strike := a_Sheet_strike.binds (ps := ["self", "number", "cell", "place", "sign"]) fun _ _ _ _ _ _ us hl => match us, hl with | [_, _, _, _, _], _ => rfl
  have m_Sheet_strike : Meth K (He.ga K "Sheet") "strike" (He.ma K (He.ga K "Sheet") "strike") := He.meth_ok (hf (x := .meth "Sheet" "strike") (by simp [faL]))
  obtain ⟨d_Sheet_erase, a_Sheet_erase⟩ := atm_of cd (k := 38) (i := 5) (C := "Sheet") (m := "erase") (by simp [fnL])
  have b_Sheet_erase := a_Sheet_erase.binds (ps := ["self", "number", "cell", "place"]) fun _ _ _ _ _ _ us hl => match us, hl with | [_, _, _, _], _ => rfl
  have m_Sheet_erase : Meth K (He.ga K "Sheet") "erase" (He.ma K (He.ga K "Sheet") "erase") := He.meth_ok (hf (x := .meth "Sheet" "erase") (by simp [faL]))
  obtain ⟨d_Sheet_part, a_Sheet_part⟩ := atm_of cd (k := 38) (i := 6) (C := "Sheet") (m := "part") (by simp [fnL])
  have b_Sheet_part := a_Sheet_part.binds (ps := ["self", "number", "cell", "place"]) fun _ _ _ _ _ _ us hl => match us, hl with | [_, _, _, _], _ => rfl
  have m_Sheet_part : Meth K (He.ga K "Sheet") "part" (He.ma K (He.ga K "Sheet") "part") := He.meth_ok (hf (x := .meth "Sheet" "part") (by simp [faL]))
  obtain ⟨d_Sheet_unite, a_Sheet_unite⟩ := atm_of cd (k := 38) (i := 7) (C := "Sheet") (m := "unite") (by simp [fnL])
  have b_Sheet_unite := a_Sheet_unite.binds (ps := ["self", "number"]) fun _ _ _ _ _ _ us hl => match us, hl with | [_, _], _ => rfl
  have m_Sheet_unite : Meth K (He.ga K "Sheet") "unite" (He.ma K (He.ga K "Sheet") "unite") := He.meth_ok (hf (x := .meth "Sheet" "unite") (by simp [faL]))
  obtain ⟨d_Sheet_back, a_Sheet_back⟩ := atm_of cd (k := 38) (i := 8) (C := "Sheet") (m := "back") (by simp [fnL])
  have b_Sheet_back := a_Sheet_back.binds (ps := ["self"]) fun _ _ _ _ _ _ us hl => match us, hl with | [_], _ => rfl
  have m_Sheet_back : Meth K (He.ga K "Sheet") "back" (He.ma K (He.ga K "Sheet") "back") := He.meth_ok (hf (x := .meth "Sheet" "back") (by simp [faL]))
  obtain ⟨d_Sheet_page, a_Sheet_page⟩ := atm_of cd (k := 38) (i := 9) (C := "Sheet") (m := "page") (by simp [fnL])
  have b_Sheet_page := a_Sheet_page.binds (ps := ["self"]) fun _ _ _ _ _ _ us hl => match us, hl with | [_], _ => rfl
  have m_Sheet_page : Meth K (He.ga K "Sheet") "page" (He.ma K (He.ga K "Sheet") "page") := He.meth_ok (hf (x := .meth "Sheet" "page") (by simp [faL]))
  obtain ⟨d_Sheet_begins, a_Sheet_begins⟩ := atm_of cd (k := 38) (i := 10) (C := "Sheet") (m := "begins") (by simp [fnL])
  have b_Sheet_begins := a_Sheet_begins.binds (ps := ["self"]) fun _ _ _ _ _ _ us hl => match us, hl with | [_], _ => rfl
  have m_Sheet_begins : Meth K (He.ga K "Sheet") "begins" (He.ma K (He.ga K "Sheet") "begins") := He.meth_ok (hf (x := .meth "Sheet" "begins") (by simp [faL]))
  obtain ⟨d_Sheet_lay, a_Sheet_lay⟩ := atm_of cd (k := 38) (i := 11) (C := "Sheet") (m := "lay") (by simp [fnL])
  have b_Sheet_lay := a_Sheet_lay.binds (ps := ["self", "number", "many", "rows"]) fun _ _ _ _ _ _ us hl => match us, hl with | [_, _, _, _], _ => rfl
  have m_Sheet_lay : Meth K (He.ga K "Sheet") "lay" (He.ma K (He.ga K "Sheet") "lay") := He.meth_ok (hf (x := .meth "Sheet" "lay") (by simp [faL]))
  obtain ⟨d_Cursor_init, a_Cursor_init⟩ := atm_of cd (k := 48) (i := 0) (C := "Cursor") (m := "__init__") (by simp [fnL])
  have b_Cursor_init := a_Cursor_init.binds (ps := ["self", "page", "style"]) fun _ _ _ _ _ _ us hl => match us, hl with | [_, _, _], _ => rfl
  have mk_Cursor : Mk K (He.ga K "Cursor") (He.ma K (He.ga K "Cursor") "__init__") := He.mkr_ok (hf (x := .mkr "Cursor") (by simp [faL]))
  obtain ⟨d_Cursor_at, a_Cursor_at⟩ := atm_of cd (k := 48) (i := 1) (C := "Cursor") (m := "at") (by simp [fnL])
  have b_Cursor_at := a_Cursor_at.binds (ps := ["self"]) fun _ _ _ _ _ _ us hl => match us, hl with | [_], _ => rfl
  have m_Cursor_at : Meth K (He.ga K "Cursor") "at" (He.ma K (He.ga K "Cursor") "at") := He.meth_ok (hf (x := .meth "Cursor" "at") (by simp [faL]))
  obtain ⟨d_Cursor_right, a_Cursor_right⟩ := atm_of cd (k := 48) (i := 4) (C := "Cursor") (m := "right") (by simp [fnL])
  have b_Cursor_right := a_Cursor_right.binds (ps := ["self"]) fun _ _ _ _ _ _ us hl => match us, hl with | [_], _ => rfl
  have m_Cursor_right : Meth K (He.ga K "Cursor") "right" (He.ma K (He.ga K "Cursor") "right") := He.meth_ok (hf (x := .meth "Cursor" "right") (by simp [faL]))
  obtain ⟨d_Cursor_rub, a_Cursor_rub⟩ := atm_of cd (k := 48) (i := 8) (C := "Cursor") (m := "rub") (by simp [fnL])
  have b_Cursor_rub := a_Cursor_rub.binds (ps := ["self"]) fun _ _ _ _ _ _ us hl => match us, hl with | [_], _ => rfl
  have m_Cursor_rub : Meth K (He.ga K "Cursor") "rub" (He.ma K (He.ga K "Cursor") "rub") := He.meth_ok (hf (x := .meth "Cursor" "rub") (by simp [faL]))
  obtain ⟨d_Cursor_page, a_Cursor_page⟩ := atm_of cd (k := 48) (i := 10) (C := "Cursor") (m := "page") (by simp [fnL])
  have b_Cursor_page := a_Cursor_page.binds (ps := ["self"]) fun _ _ _ _ _ _ us hl => match us, hl with | [_], _ => rfl
  have m_Cursor_page : Meth K (He.ga K "Cursor") "page" (He.ma K (He.ga K "Cursor") "page") := He.meth_ok (hf (x := .meth "Cursor" "page") (by simp [faL]))
  obtain ⟨d_Cursor_step, a_Cursor_step⟩ := atm_of cd (k := 48) (i := 11) (C := "Cursor") (m := "step") (by simp [fnL])
  have b_Cursor_step := a_Cursor_step.binds (ps := ["self", "by"]) fun _ _ _ _ _ _ us hl => match us, hl with | [_, _], _ => rfl
  have m_Cursor_step : Meth K (He.ga K "Cursor") "step" (He.ma K (He.ga K "Cursor") "step") := He.meth_ok (hf (x := .meth "Cursor" "step") (by simp [faL]))
  obtain ⟨d_Cursor_beside, a_Cursor_beside⟩ := atm_of cd (k := 48) (i := 12) (C := "Cursor") (m := "beside") (by simp [fnL])
  have b_Cursor_beside := a_Cursor_beside.binds (ps := ["self", "by"]) fun _ _ _ _ _ _ us hl => match us, hl with | [_, _], _ => rfl
  have m_Cursor_beside : Meth K (He.ga K "Cursor") "beside" (He.ma K (He.ga K "Cursor") "beside") := He.meth_ok (hf (x := .meth "Cursor" "beside") (by simp [faL]))
  have e := hfa.symm.trans a62.mg_
  cases e
  refine ⟨d62, tfL.map (He.cT K), spLaw K (tfB.map (He.cT K)) , fun p hp => ?_, fun p hp => ?_, fun p hp => ?_, fun s u => ?_, fun H a ns hl _ hT hS => ⟨a, ns, rfl, fun p hp => ⟨_, hT p (subL hp), triples_nil⟩, hS, hl, fun _ => rfl⟩, fun base KB _ TB => ?_⟩
  · obtain ⟨p', hp', rfl⟩ := List.mem_map.mp hp
    exact c.empty p' hp'
  · obtain ⟨p', hp', rfl⟩ := List.mem_map.mp hp
    exact c.out p' hp'
  · obtain ⟨p', hp', rfl⟩ := List.mem_map.mp hp
    exact PySem.W.codeHd_of_K X (c.hd p' hp')
  · obtain ⟨oc, od, kV, doc, pm, an, cdv, ct, osl, e, _, _⟩ := a62.fn.ex
    rw [e]
    exact .of_eq rfl
  have m19 : He.cT K ("is_text_of_signs", none) ∈ tfB.map (He.cT K) := List.mem_map.mpr ⟨_, by simp [tfB], rfl⟩
  have t19 := tab_conv (TB _ (subL m19))
  have m21 : He.cT K ("is_row", none) ∈ tfB.map (He.cT K) := List.mem_map.mpr ⟨_, by simp [tfB], rfl⟩
  have t21 := tab_conv (TB _ (subL m21))
  have m26 : He.cT K ("stretches", none) ∈ tfB.map (He.cT K) := List.mem_map.mpr ⟨_, by simp [tfB], rfl⟩
  have t26 := tab_conv (TB _ (subL m26))
  have m29 : He.cT K ("described", none) ∈ tfB.map (He.cT K) := List.mem_map.mpr ⟨_, by simp [tfB], rfl⟩
  have t29 := tab_conv (TB _ (subL m29))
  have m30 : He.cT K ("stands_right", none) ∈ tfB.map (He.cT K) := List.mem_map.mpr ⟨_, by simp [tfB], rfl⟩
  have t30 := tab_conv (TB _ (subL m30))
  have g52 := ok_begun (P := PySem.Challenge.rw_tabgrow_k13_whole_in_whatever_order_it_i.prog) (w := w) (base := base) (mg := mg) T a52.fn 
  have g53 := ok_take (P := PySem.Challenge.rw_tabgrow_k13_whole_in_whatever_order_it_i.prog) (w := w) (base := base) (mg := mg)  a53.fn 
  have g55 := ok_sign (P := PySem.Challenge.rw_tabgrow_k13_whole_in_whatever_order_it_i.prog) (w := w) (base := base) (mg := mg)  a55.fn g53 a53.kp b53 a53.mg_
  have g56 := ok_cell (P := PySem.Challenge.rw_tabgrow_k13_whole_in_whatever_order_it_i.prog) (w := w) (base := base) (mg := mg) T a56.fn g53 a53.kp b53 a53.mg_ g55 a55.kp b55 a55.mg_
  have g57 := ok_lrow (P := PySem.Challenge.rw_tabgrow_k13_whole_in_whatever_order_it_i.prog) (w := w) (base := base) (mg := mg) T a57.fn g56 a56.kp b56 a56.mg_
  have g58 := ok_lpage (P := PySem.Challenge.rw_tabgrow_k13_whole_in_whatever_order_it_i.prog) (w := w) (base := base) (mg := mg) T a58.fn g53 a53.kp b53 a53.mg_ g57 a57.kp b57 a57.mg_
  have g59 := ok_lstyle (P := PySem.Challenge.rw_tabgrow_k13_whole_in_whatever_order_it_i.prog) (w := w) (base := base) (mg := mg)  a59.fn g53 a53.kp b53 a53.mg_
  have g18 := ok_sg (P := PySem.Challenge.rw_tabgrow_k13_whole_in_whatever_order_it_i.prog) (w := w) (base := base) (mg := mg) T N a18.fn 
  have g19 := ok_text (P := PySem.Challenge.rw_tabgrow_k13_whole_in_whatever_order_it_i.prog) (w := w) (base := base) (mg := mg) T a19.fn (code_of a19) t19 m19 g18 a18.kp b18 a18.mg_
  have g21 := ok_isrow (P := PySem.Challenge.rw_tabgrow_k13_whole_in_whatever_order_it_i.prog) (w := w) (base := base) (mg := mg) T N a21.fn (code_of a21) t21 m21 g19 a19.kp b19 a19.mg_
  have g22 := ok_misfit (P := PySem.Challenge.rw_tabgrow_k13_whole_in_whatever_order_it_i.prog) (w := w) (base := base) (mg := mg) T N a22.fn g21 a21.kp b21 a21.mg_
  have g23 := ok_check (P := PySem.Challenge.rw_tabgrow_k13_whole_in_whatever_order_it_i.prog) (w := w) (base := base) (mg := mg) T a23.fn g22 a22.kp b22 a22.mg_
  have g17 := ok_whole (P := PySem.Challenge.rw_tabgrow_k13_whole_in_whatever_order_it_i.prog) (w := w) (base := base) (mg := mg) T a17.fn 
  have g24 := ok_cstyle (P := PySem.Challenge.rw_tabgrow_k13_whole_in_whatever_order_it_i.prog) (w := w) (base := base) (mg := mg) T N a24.fn g17 a17.kp b17 a17.mg_
  have g28 := ok_closed (P := PySem.Challenge.rw_tabgrow_k13_whole_in_whatever_order_it_i.prog) (w := w) (base := base) (mg := mg) T a28.fn 
  have g27 := ok_runs (P := PySem.Challenge.rw_tabgrow_k13_whole_in_whatever_order_it_i.prog) (w := w) (base := base) (mg := mg) (cs := tfB.map (He.cT K)) T a27.fn g28 a28.kp b28 a28.mg_
  have g31 := ok_isfig (P := PySem.Challenge.rw_tabgrow_k13_whole_in_whatever_order_it_i.prog) (w := w) (base := base) (mg := mg)  a31.fn 
  have g30 := ok_right (P := PySem.Challenge.rw_tabgrow_k13_whole_in_whatever_order_it_i.prog) (w := w) (base := base) (mg := mg) T a30.fn (code_of a30) t30 m30 g31 a31.kp b31 a31.mg_
  have g29 := ok_desc (P := PySem.Challenge.rw_tabgrow_k13_whole_in_whatever_order_it_i.prog) (w := w) (base := base) (mg := mg) T a29.fn (code_of a29) t29 m29 g30 a30.kp b30 a30.mg_
  have g26 := ok_str (P := PySem.Challenge.rw_tabgrow_k13_whole_in_whatever_order_it_i.prog) (w := w) (base := base) (mg := mg) T a26.fn (code_of a26) t26 m26 g23 a23.kp b23 a23.mg_ g24 a24.kp b24 a24.mg_ g27 a27.kp b27 a27.mg_ g29 a29.kp b29 a29.mg_
  have g34 := ok_cc (P := PySem.Challenge.rw_tabgrow_k13_whole_in_whatever_order_it_i.prog) (w := w) (base := base) (mg := mg) T a34.fn g26 a26.kp b26 a26.mg_
  have g35 := ok_le (P := PySem.Challenge.rw_tabgrow_k13_whole_in_whatever_order_it_i.prog) (w := w) (base := base) (mg := mg)  a35.fn 
  have g36 := ok_bo (P := PySem.Challenge.rw_tabgrow_k13_whole_in_whatever_order_it_i.prog) (w := w) (base := base) (mg := mg) T a36.fn g35 a35.kp b35 a35.mg_
  have g33 := ok_laid (P := PySem.Challenge.rw_tabgrow_k13_whole_in_whatever_order_it_i.prog) (w := w) (base := base) (mg := mg) hz a33.fn g34 a34.kp b34 a34.mg_ g36 a36.kp b36 a36.mg_
  have g17_B := TGK.ok_wholeB (P := PySem.Challenge.rw_tabgrow_k13_whole_in_whatever_order_it_i.prog) (w := w) (base := base) (mg := mg) T a17.fn 
  have g39_0 := TGK.ok_num0 (P := PySem.Challenge.rw_tabgrow_k13_whole_in_whatever_order_it_i.prog) (w := w) (base := base) (mg := mg)  a39.fn g17_B a17.kp b17 a17.mg_
  have g39 := TGK.ok_num (P := PySem.Challenge.rw_tabgrow_k13_whole_in_whatever_order_it_i.prog) (w := w) (base := base) (mg := mg) Er a39.fn g17_B a17.kp b17 a17.mg_
  have g20 := TGK.ok_filled (P := PySem.Challenge.rw_tabgrow_k13_whole_in_whatever_order_it_i.prog) (w := w) (base := base) (mg := mg)  a20.fn g19 a19.kp b19 a19.mg_
  have g40 := TGK.ok_csign (P := PySem.Challenge.rw_tabgrow_k13_whole_in_whatever_order_it_i.prog) (w := w) (base := base) (mg := mg) eT a40.fn g20 a20.kp b20 a20.mg_
  have g18_2 := TGK.ok_sg2 (P := PySem.Challenge.rw_tabgrow_k13_whole_in_whatever_order_it_i.prog) (w := w) (base := base) (mg := mg) T N a18.fn 
  have g19_2 := TGK.ok_text2 (P := PySem.Challenge.rw_tabgrow_k13_whole_in_whatever_order_it_i.prog) (w := w) (base := base) (mg := mg) T a19.fn (code_of a19) t19 m19 g18_2 a18.kp b18 a18.mg_
  have g21_B := TGK.ok_rowB (P := PySem.Challenge.rw_tabgrow_k13_whole_in_whatever_order_it_i.prog) (w := w) (base := base) (mg := mg) T N a21.fn (code_of a21) t21 m21 g19_2 a19.kp b19 a19.mg_
  have g41 := TGK.ok_fits (P := PySem.Challenge.rw_tabgrow_k13_whole_in_whatever_order_it_i.prog) (w := w) (base := base) (mg := mg) N Er a41.fn g21_B a21.kp b21 a21.mg_
  have g42 := TGK.ok_half (P := PySem.Challenge.rw_tabgrow_k13_whole_in_whatever_order_it_i.prog) (w := w) (base := base) (mg := mg) T a42.fn g39_0 a39.kp b39 a39.mg_ g17 a17.kp b17 a17.mg_
  have g43 := TGK.ok_join (P := PySem.Challenge.rw_tabgrow_k13_whole_in_whatever_order_it_i.prog) (w := w) (base := base) (mg := mg)  a43.fn 
  have g44 := TGK.ok_less (P := PySem.Challenge.rw_tabgrow_k13_whole_in_whatever_order_it_i.prog) (w := w) (base := base) (mg := mg) T Er a44.fn 
  have g45 := TGK.ok_mov (P := PySem.Challenge.rw_tabgrow_k13_whole_in_whatever_order_it_i.prog) (w := w) (base := base) (mg := mg) T hz a45.fn 
  have g49 := TGK.ok_rowspots (P := PySem.Challenge.rw_tabgrow_k13_whole_in_whatever_order_it_i.prog) (w := w) (base := base) (mg := mg) T a49.fn 
  have g50 := TGK.ok_pagespots (P := PySem.Challenge.rw_tabgrow_k13_whole_in_whatever_order_it_i.prog) (w := w) (base := base) (mg := mg) T a50.fn g49 a49.kp b49 a49.mg_
  have s_page := TGK.ok_shpage (P := PySem.Challenge.rw_tabgrow_k13_whole_in_whatever_order_it_i.prog) (w := w) (base := base) (mg := mg) T Xc.sh a_Sheet_page
  have s_begins := TGK.ok_shbegins (P := PySem.Challenge.rw_tabgrow_k13_whole_in_whatever_order_it_i.prog) (w := w) (base := base) (mg := mg) (cs := tfB.map (He.cT K)) Xc.sh a_Sheet_begins g33 a33.kp b33 a33.mg_
  have s_init := TGK.ok_shinit (P := PySem.Challenge.rw_tabgrow_k13_whole_in_whatever_order_it_i.prog) (w := w) (base := base) (mg := mg) (cs := tfB.map (He.cT K)) T Xc.sh a_Sheet_init g23 a23.kp b23 a23.mg_ g24 a24.kp b24 a24.mg_
  have s_lay := TGK.ok_lay (P := PySem.Challenge.rw_tabgrow_k13_whole_in_whatever_order_it_i.prog) (w := w) (base := base) (mg := mg) (cs := tfB.map (He.cT K)) T Xc.sh a_Sheet_lay g41 a41.kp b41 a41.mg_ m_Sheet_begins s_begins b_Sheet_begins g45 a45.kp b45 a45.mg_
  have s_strike := TGK.ok_strike (P := PySem.Challenge.rw_tabgrow_k13_whole_in_whatever_order_it_i.prog) (w := w) (base := base) (mg := mg) (cs := tfB.map (He.cT K)) eT Xc.sh a_Sheet_strike g42 a42.kp b42 a42.mg_ g40 a40.kp b40 a40.mg_ g43 a43.kp b43 a43.mg_ m_Sheet_lay s_lay b_Sheet_lay
  have s_erase := TGK.ok_erase (P := PySem.Challenge.rw_tabgrow_k13_whole_in_whatever_order_it_i.prog) (w := w) (base := base) (mg := mg) (cs := tfB.map (He.cT K)) Xc.sh a_Sheet_erase g42 a42.kp b42 a42.mg_ g44 a44.kp b44 a44.mg_ g43 a43.kp b43 a43.mg_ m_Sheet_lay s_lay b_Sheet_lay
  have s_part := TGK.ok_part (P := PySem.Challenge.rw_tabgrow_k13_whole_in_whatever_order_it_i.prog) (w := w) (base := base) (mg := mg) (cs := tfB.map (He.cT K)) Xc.sh a_Sheet_part g42 a42.kp b42 a42.mg_ m_Sheet_lay s_lay b_Sheet_lay
  have s_unite := TGK.ok_unite (P := PySem.Challenge.rw_tabgrow_k13_whole_in_whatever_order_it_i.prog) (w := w) (base := base) (mg := mg) (cs := tfB.map (He.cT K)) T Xc.sh a_Sheet_unite g39 a39.kp b39 a39.mg_ g43 a43.kp b43 a43.mg_ m_Sheet_lay s_lay b_Sheet_lay
  have s_back := TGK.ok_backD (P := PySem.Challenge.rw_tabgrow_k13_whole_in_whatever_order_it_i.prog) (w := w) (base := base) (mg := mg) (cs := tfB.map (He.cT K)) T Xc.sh a_Sheet_back
  have c_at := TGK.ok_at (P := PySem.Challenge.rw_tabgrow_k13_whole_in_whatever_order_it_i.prog) (w := w) (base := base) (mg := mg) Xc a_Cursor_at
  have c_page := TGK.ok_cupage (P := PySem.Challenge.rw_tabgrow_k13_whole_in_whatever_order_it_i.prog) (w := w) (base := base) (mg := mg) Xc a_Cursor_page m_Sheet_page s_page b_Sheet_page
  have c_init := TGK.ok_cuinit (P := PySem.Challenge.rw_tabgrow_k13_whole_in_whatever_order_it_i.prog) (w := w) (base := base) (mg := mg) (cs := tfB.map (He.cT K)) Xc FT a_Cursor_init mk_Sheet s_init b_Sheet_init gS
  have c_beside := TGK.ok_beside (P := PySem.Challenge.rw_tabgrow_k13_whole_in_whatever_order_it_i.prog) (w := w) (base := base) (mg := mg) T Xc a_Cursor_beside m_Sheet_page s_page b_Sheet_page g50 a50.kp b50 a50.mg_
  have c_step := TGK.ok_step (P := PySem.Challenge.rw_tabgrow_k13_whole_in_whatever_order_it_i.prog) (w := w) (base := base) (mg := mg) (cs := tfB.map (He.cT K)) Xc a_Cursor_step m_Cursor_beside c_beside b_Cursor_beside
  have c_right := TGK.ok_cright (P := PySem.Challenge.rw_tabgrow_k13_whole_in_whatever_order_it_i.prog) (w := w) (base := base) (mg := mg) (cs := tfB.map (He.cT K)) Xc a_Cursor_right m_Cursor_step c_step b_Cursor_step
  have c_rub := TGK.ok_rub (P := PySem.Challenge.rw_tabgrow_k13_whole_in_whatever_order_it_i.prog) (w := w) (base := base) (mg := mg) (cs := tfB.map (He.cT K)) Er Xc a_Cursor_rub m_Sheet_unite s_unite b_Sheet_unite m_Sheet_erase s_erase b_Sheet_erase m_Cursor_beside c_beside b_Cursor_beside
  have g61 := TGK.ok_parted (P := PySem.Challenge.rw_tabgrow_k13_whole_in_whatever_order_it_i.prog) (w := w) (base := base) (mg := mg) (cs := tfB.map (He.cT K)) T Xc.sh a61.fn g53 a53.kp b53 a53.mg_ m_Sheet_part (fn0_of s_part) b_Sheet_part m_Sheet_strike (fn0_of s_strike) b_Sheet_strike
  have g60 := TGK.ok_typed (P := PySem.Challenge.rw_tabgrow_k13_whole_in_whatever_order_it_i.prog) (w := w) (base := base) (mg := mg) (cs := tfB.map (He.cT K)) T Xc.sh a60.fn g53 a53.kp b53 a53.mg_ m_Sheet_strike (fn0_of s_strike) b_Sheet_strike
  exact TGK.ok_law T hz_sum Xc a62.fn g52 a52.kp b52 a52.mg_ g53 a53.kp b53 a53.mg_ g58 a58.kp b58 a58.mg_ g59 a59.kp b59 a59.mg_ g33 a33.kp b33 a33.mg_ g61 a61.kp b61 a61.mg_ g60 a60.kp b60 a60.mg_ mk_Sheet s_init b_Sheet_init gS mk_Cursor c_init b_Cursor_init gC m_Sheet_page s_page b_Sheet_page m_Sheet_begins s_begins b_Sheet_begins m_Sheet_back s_back b_Sheet_back m_Cursor_right c_right b_Cursor_right m_Cursor_rub (fn0_of c_rub) b_Cursor_rub m_Cursor_page c_page b_Cursor_page m_Cursor_at c_at b_Cursor_at
end TG


open PySem PySem.W PySem.Calls PyProof.Rows
theorem PySem.Challenge.cw_tabgrow_k13_whole_in_whatever_order_it_i_holds : PySem.Challenge.rw_tabgrow_k13_whole_in_whatever_order_it_i.Holds := by
  w_on; o_law
  refine HandSHeadRun.head_any (r := OpenLaw.row PySem.Challenge.rw_tabgrow_k13_whole_in_whatever_order_it_i) (q := view (OpenLaw.row PySem.Challenge.rw_tabgrow_k13_whole_in_whatever_order_it_i).prog [62]) (H := TG.hdHk) (ob := TG.hdOb) (M := 4000) (loose := TG.looseL) (d := HandSHeadRun.topDef (OpenLaw.row PySem.Challenge.rw_tabgrow_k13_whole_in_whatever_order_it_i).prog 62) (kwd := []) TG.hdOb_eq
    (by kernel_rfl) (fun s => by kernel_rfl) TG.hdRun (by kernel_rfl) (by kernel_rfl) (by kernel_rfl) (by rfl) (by first | assumption | decide +kernel) (by decide +kernel) ⟨rfl, rfl, rfl, rfl, rfl, by decide +kernel⟩ ?hw ?hc
  case hw => w_witness2
  case hc =>
    refine LamX.walk_ofTsE (l := PySem.Challenge.rw_tabgrow_k13_whole_in_whatever_order_it_i) (n := 63) (k := 19) (x := "_law_script") (CX := fun _ => L2.CX0) rfl (by decide) (by kernel_rfl) ⟨rfl, by decide, by decide⟩ ?F (fun _ _ _ _ _ z => z)
    intro w mg fa h Y G hmg0
    obtain ⟨K, KX, c⟩ := Y
    have hmg : mg ("law" : PySem.Str) = some (.ref fa) := by
      have e : (HandSHeadRun.topDef (OpenLaw.row PySem.Challenge.rw_tabgrow_k13_whole_in_whatever_order_it_i).prog 62).name = ("law" : PySem.Str) := by kernel_rfl
      rw [← e]
      exact hmg0
    exact ⟨K, KX, TG.facts KX G hmg c⟩

