import PyProof.Rows.All
import Wide.All
import OpenK.AllK
import Wide.FinOn
import HandS.ForMost
import HandS.Exc
import HandS.GenList
import HandS.AnyAll
import HandS.IsInst
import HandS.StrMore
import HandS.Flow
import HandS.TupAny
import HandS.EndTab
import HandS.Walk
import HandS.Lambda
import HandS.Codes
import KE.KIntText
import KE.KxText
import KE.KStateDown
import HandS.Head0
import HandS.Head1
import HandS.Head2
import HandS.HeadEnd
import HandS.HeadHook1
import HandS.HeadHook2
import HandS.HeadHook3
import HandS.HeadHook4
import HandS.HeadWalk
import PyProof.WalkInts
import PyProof.ZipIter
import HandS.Zip
import HandS.Nested
import HandS.GenOver
import KE.KLam
import PySem.Challenge.RW_tabgrow_k17_routes
import KE.GoesEnum
import HandS.Iter
import HandS.Wide
import HandS.Flt
import HandS.TupMul
import KE.DataMinKey
import HandS.SortKw
import PyProof.Methods
import KE.GoesComp
import HandS.TryMany
import HandS.Dict
import HandS.Small
import HandS.Conv
import HandS.More
import HandS.Deep
import HandS.Style
import HandS.WordsExc
import HandS.ExcInit
import HandS.ExcOwn
import HandS.FStr
import HandS.ExcIs
import HandS.ExcField
import KE.KExcIs
import KE.KExcSuper
import KE.KSuper
import KE.KSuperObj
set_option Elab.async false
set_option linter.all false
set_option maxRecDepth 1000000
set_option maxHeartbeats 20000000
namespace Gx
open PySem PySem.Spec PyProof.Rows L2 GenW
section
variable {X : Cx} {pins : List (Addr × Obj)} {σ : L2.St} {H : Hp} {s : Shared} {A : Around} {sc : Scope} {x : Str} {code : Value} {fp : List Addr}
end
end Gx
namespace Gx
open PySem PySem.Spec PyProof.Rows L2 GenW
section
variable {X : Cx} {pins : List (Addr × Obj)} {σ : L2.St} {H : Hp} {s : Shared} {sc : Scope} {x : Str}
end
end Gx
namespace Gx
open PySem PySem.Spec PyProof.Rows L2 GenW
section
variable {X : Cx} {pins : List (Addr × Obj)} {σ : L2.St} {H : Hp} {s : Shared} {sc : Scope} {x : Str}
end
end Gx
namespace Gx
open PySem PySem.Spec PyProof.Rows L2 GenW
section
variable {X : Cx} {pins : List (Addr × Obj)} {σ : L2.St} {H : Hp} {s : Shared} {sc : Scope} {x : Str}
end
end Gx
namespace Gx
open PySem PySem.Spec PyProof.Rows L2 GenW
section
variable {X : Cx} {pins : List (Addr × Obj)} {σ : L2.St} {H : Hp} {s : Shared} {sc : Scope} {x : Str}
def MaxRel (ys : List V) (acc : Array Value) : Prop :=
  ∃ ns : List Int, ys = ns.map V.int ∧ ((ns = [] ∧ acc = #[]) ∨ ∃ b t, acc = #[.int b t, .int b t] ∧ b ∈ ns ∧ ∀ z ∈ ns, z ≤ b)
def NsMax (Qm : Int → Hp → Prop) : List V → Hp → Prop := fun ys H => ∃ ns : List Int, ys = ns.map V.int ∧ ns ≠ [] ∧ ∀ b, b ∈ ns → (∀ z ∈ ns, z ≤ b) → Qm b H
theorem map_int_inj {a b : List Int} (h : a.map V.int = b.map V.int) : a = b := by
  induction a generalizing b with
  | nil => cases b with
    | nil => rfl
    | cons _ _ => cases h
  | cons x a ih => cases b with
    | nil => cases h
    | cons y b =>
      rw [List.map_cons, List.map_cons] at h
      injection h with h1 h2
      injection h1 with h1
      rw [h1, ih h2]
theorem MaxRel.none {ys : List V} {Qm : Int → Hp → Prop} (h : MaxRel ys #[]) (q : NsMax Qm ys H) : False := by
  obtain ⟨ns, rfl, h | ⟨b', u', e, hb, hm⟩⟩ := h
  · obtain ⟨ms, e1, h2, _⟩ := q
    rw [h.1] at e1
    exact h2 (map_int_inj e1).symm
  · have := congrArg Array.size e
    simp at this
end
end Gx
namespace TG
open PySem L2
def top (i : Nat) : Stmt := PySem.Challenge.pw_tabgrow_k17_routes.main.body.getD i (.Pass ⟨0, 0, 0, 0⟩)
abbrev s_is_sign : Stmt := top 10
abbrev s_is_text : Stmt := top 11
abbrev s_is_row : Stmt := top 12
abbrev s_misfit : Stmt := top 13
abbrev s_check_page : Stmt := top 14
abbrev s_route : Stmt := top 16
abbrev s_begun : Stmt := top 19
abbrev s_take : Stmt := top 20
abbrev s_alike : Stmt := top 21
abbrev s_sign : Stmt := top 22
abbrev s_cell : Stmt := top 23
abbrev s_row : Stmt := top 24
abbrev s_page : Stmt := top 25
abbrev s_style : Stmt := top 26
abbrev s_near : Stmt := top 27
abbrev s_needs : Stmt := top 28
abbrev s_due : Stmt := top 29
abbrev s_law : Stmt := top 30
section
variable {P : Program} {w : World} {K : PySem.W.Frag} {mg : Str → Option Value} {base : Heap}
end
end TG
namespace TG
open PySem L2
section
variable {P : Program} {w : World} {K : PySem.W.Frag} {mg : Str → Option Value} {base : Heap}
end
end TG
namespace Gx
open PySem PySem.Spec PyProof.Rows L2 GenW
section
variable {J : It} {n : Nat} {G : Hp → Prop} {Y : Nat → Hp → V → Hp → Prop}
end
end Gx
namespace TG
open PySem L2 Gx
def SgOk (c : Nat) : Prop := 32 ≤ c ∧ c ≤ 126 ∧ c ≠ 37
section
variable {P : Program} {w : World} {K : PySem.W.Frag} {mg : Str → Option Value} {base : Heap}
end
end TG
namespace TG
open PySem L2 Gx
section
variable {P : Program} {w : World} {K : PySem.W.Frag} {mg : Str → Option Value} {base : Heap} {cs : List (Addr × Addr)}
end
end TG
namespace TG
open PySem L2 Gx
section
variable {P : Program} {w : World} {K : PySem.W.Frag} {mg : Str → Option Value} {base : Heap} {cs : List (Addr × Addr)}
end
end TG
namespace TG
open PySem L2 Gx
section
variable {P : Program} {w : World} {K : PySem.W.Frag} {mg : Str → Option Value} {base : Heap} {cs : List (Addr × Addr)}
end
end TG
namespace TG
open PySem L2 Gx
section
variable {P : Program} {w : World} {K : PySem.W.Frag} {mg : Str → Option Value} {base : Heap} {cs : List (Addr × Addr)}
end
end TG
namespace TG
open PySem L2 Gx
section
variable {P : Program} {w : World} {K : PySem.W.Frag} {mg : Str → Option Value} {base : Heap} {cs : List (Addr × Addr)}
end
end TG
namespace TG
open PySem L2 Gx
section
variable {P : Program} {w : World} {K : PySem.W.Frag} {mg : Str → Option Value} {base : Heap} {cs : List (Addr × Addr)}
end
end TG
namespace TG
open PySem L2 Gx
instance (c : Nat) : Decidable (SgOk c) := inferInstanceAs (Decidable (32 ≤ c ∧ c ≤ 126 ∧ c ≠ 37))
end TG
namespace TG
open PySem L2 Gx
section
variable {P : Program} {w : World} {K : PySem.W.Frag} {mg : Str → Option Value} {base : Heap} {cs : List (Addr × Addr)}
end
end TG
namespace TG
open PySem L2 Gx
section
variable {P : Program} {w : World} {K : PySem.W.Frag} {mg : Str → Option Value} {base : Heap} {cs : List (Addr × Addr)}
end
end TG
namespace TG
open PySem L2 Gx
section
variable {P : Program} {w : World} {K : PySem.W.Frag} {mg : Str → Option Value} {base : Heap} {cs : List (Addr × Addr)}
end
end TG
namespace TG
open PySem L2 Gx
section
variable {P : Program} {w : World} {K : PySem.W.Frag} {mg : Str → Option Value} {base : Heap} {cs : List (Addr × Addr)}
end
end TG
namespace TG
open PySem L2 Gx
end TG
namespace TG
open PySem L2 Gx
end TG
namespace TG
open PySem L2 Gx
section
variable {P : Program} {w : World} {K : PySem.W.Frag} {mg : Str → Option Value} {base : Heap} {cs : List (Addr × Addr)}
end
end TG
namespace TG
open PySem L2 Gx
section
variable {P : Program} {w : World} {K : PySem.W.Frag} {mg : Str → Option Value} {base : Heap} {cs : List (Addr × Addr)}
end
end TG
namespace TG
open PySem L2 Gx
section
variable {P : Program} {w : World} {K : PySem.W.Frag} {mg : Str → Option Value} {base : Heap} {cs : List (Addr × Addr)}
end
end TG
namespace TG
open PySem L2 Gx
section
variable {P : Program} {w : World} {K : PySem.W.Frag} {mg : Str → Option Value} {base : Heap} {cs : List (Addr × Addr)}
end
end TG
namespace TG
open PySem L2 Gx
section
variable {P : Program} {w : World} {K : PySem.W.Frag} {mg : Str → Option Value} {base : Heap} {cs : List (Addr × Addr)}
end
end TG
namespace TG
open PySem L2 Gx
section
variable {P : Program} {w : World} {K : PySem.W.Frag} {mg : Str → Option Value} {base : Heap} {cs : List (Addr × Addr)}
end
end TG
namespace TG
open PySem L2 Gx
section
variable {P : Program} {w : World} {K : PySem.W.Frag} {mg : Str → Option Value} {base : Heap} {cs : List (Addr × Addr)}
end
end TG
namespace TG
open PySem L2 Gx
end TG
namespace Zm
open PySem PySem.Spec PyProof.Rows L2
section
variable {P : Program} {w : World} {A : Around} {E : Value → Shared → Prop} {s : Shared} {z TI TO i1 i2 l1 l2 : Addr}
end
end Zm
namespace Zm
open PySem PySem.Spec PyProof.Rows L2
section
variable {P : Program} {w : World} {A : Around} {E : Value → Shared → Prop} {s : Shared}
end
end Zm
namespace TG
open PySem L2 Gx
section
variable {P : Program} {w : World} {K : PySem.W.Frag} {mg : Str → Option Value} {base : Heap} {cs : List (Addr × Addr)}
end
end TG
namespace TG
open PySem L2 Gx
section
variable {P : Program} {w : World} {K : PySem.W.Frag} {mg : Str → Option Value} {base : Heap} {cs : List (Addr × Addr)}
end
end TG
namespace Lv
open PySem PySem.Spec PyProof.Rows L2 NdefX GenW
section
variable {X : Cx} {pins : List (Addr × Obj)} {σ : L2.St} {H : Hp} {s : Shared}
end
section
variable {P : Program} {w : World} {K : PySem.W.Frag} {mg : Str → Option Value} {base : Heap}
end
end Lv
namespace TG
open PySem PySem.Spec PyProof.Rows L2
section
variable {P : Program} {w : World}
variable {K : PySem.W.Frag} {mg : Str → Option Value} {base : Heap} {A : Around} {outer : List Env} {s s' : Shared}
end
end TG
namespace TG
open PySem PySem.Spec PyProof.Rows L2 NdefX GenW Gx Lv
section
variable {P : Program} {w : World} {K : PySem.W.Frag} {mg : Str → Option Value} {base : Heap}
end
end TG
namespace TG
open PySem PySem.Spec PyProof.Rows L2 NdefX GenW Gx Lv
end TG
namespace TG
open PySem PySem.Spec PyProof.Rows L2 NdefX GenW Gx Lv
end TG
namespace TG
open PySem PySem.Spec PyProof.Rows L2
/-! ### the head -/
def dd (i : Nat) (x : Str) : He.DefD := ⟨(x, none), x, x, defArgs (top i), defBody (top i), defScope (top i), [], []⟩
def fnL : List He.DefD := [dd 10 "is_sign", dd 11 "is_text_of_signs", dd 12 "is_row", dd 13 "first_misfit", dd 14 "check_page", dd 16 "route", dd 17 "ways", dd 19 "_law_begun", dd 20 "_law_take", dd 21 "_law_alike", dd 22 "_law_sign", dd 23 "_law_cell", dd 24 "_law_row", dd 25 "_law_page", dd 26 "_law_style", dd 27 "_law_near", dd 28 "_law_needs", dd 29 "_law_due", dd 30 "law"]
def faL : List He.Fa := [.glo "is_sign", .glo "is_text_of_signs", .glo "is_row", .glo "first_misfit", .glo "check_page", .glo "route", .glo "ways", .glo "_law_begun", .glo "_law_take", .glo "_law_alike", .glo "_law_sign", .glo "_law_cell", .glo "_law_row", .glo "_law_page", .glo "_law_style", .glo "_law_near", .glo "_law_needs", .glo "_law_due", .glo "law", .int "BLANK" 32, .int "TILDE" 126, .int "PERCENT" 37, .int "MOST_ROWS" 30, .int "MOST_CELLS" 6, .int "MOST_SIGNS" 10, .free "isinstance", .free "len", .free "range", .free "max", .free "min", .free "all", .free "str", .free "int", .free "bool", .free "list", .free "tuple", .free "enumerate", .free "ord"]
def tfB : List He.Defn := [("is_text_of_signs", none), ("is_row", none)]
def lmL : List He.Defn := []
def tfL : List He.Defn := tfB ++ lmL
def exL : PySem.W.Frag → Bool := fun K => (lmL.all fun r => (tfB.all fun q => decide ((He.cT K q).2 ≠ (He.cT K r).2)) && (lmL.all fun q => decide (q = r) || decide ((He.cT K q).2 ≠ (He.cT K r).2)))
end TG


namespace TG
open PySem PySem.Spec PyProof.Rows L2
abbrev hdRow : PySem.W.OpenRow := PySem.W.OpenLaw.row PySem.Challenge.rw_tabgrow_k17_routes
abbrev hdHk : PySem.W.Hook := He.hookX 4 faL fnL [] tfL exL
def hdOb (s : PySem.W.SharedT) : He.AlX := He.obsX 4 faL fnL [] tfL exL (HandSHeadRun.getT s)
theorem hdOb_eq (s : PySem.W.SharedT) : hdOb s = hdHk.obs s.abs := He.obsX_eq (HandSHeadRun.getT_eq s)
def loose0 : List Str := [PySem.Str.ofString "GrowError", PySem.Str.ofString "BadPage", PySem.Str.ofString "MOST_ROWS", PySem.Str.ofString "MOST_CELLS", PySem.Str.ofString "MOST_SIGNS", PySem.Str.ofString "BLANK", PySem.Str.ofString "TILDE", PySem.Str.ofString "PERCENT", PySem.Str.ofString "is_sign", PySem.Str.ofString "is_text_of_signs", PySem.Str.ofString "is_row", PySem.Str.ofString "first_misfit", PySem.Str.ofString "check_page", PySem.Str.ofString "route", PySem.Str.ofString "ways", PySem.Str.ofString "_law_begun", PySem.Str.ofString "_law_take", PySem.Str.ofString "_law_alike", PySem.Str.ofString "_law_sign", PySem.Str.ofString "_law_cell"]
def loose1 : List Str := [PySem.Str.ofString "_law_row", PySem.Str.ofString "_law_page", PySem.Str.ofString "_law_style", PySem.Str.ofString "_law_near", PySem.Str.ofString "_law_needs", PySem.Str.ofString "_law_due"]
def looseL : List Str := loose0 ++ loose1
theorem hdRun (w : World) : HandSHeadRun.RunEq hdRow (PySem.W.view hdRow.prog [30]) hdHk hdOb 4000 looseL w := by
  intro os
  kernel_rfl
end TG

namespace Gx
open PySem PySem.Spec PyProof.Rows L2 GenW
abbrev gE (X : Cx) (sc : Scope) (C : Addr) (code : Value) : Env :=
  genEnv sc (cloFrom X.env.cells sc.names []) C code builtinsNs X.env
/-- the context of the element -/
def gCx (X : Cx) (A : Around) (sc : Scope) (x : Str) (code : Value) (s4 : Shared) (H4 : Hp) (fp : List Addr) : Cx where
  prog := X.prog
  w := X.w
  K := X.K
  mg := X.mg
  base := X.base
  A := A.deeper (gE X sc s4.heap.objs.size code)
  N := [x]
  s_0 := s4
  H_0 := H4
  env := gE X sc s4.heap.objs.size code
  outer := X.stack
  stack := gE X sc s4.heap.objs.size code :: X.stack
  ex := fp
  fn := fun _ => false
  calm := true
  pn := []
  xe := fun _ _ => False
/-- the scope of a generator expression that captures nothing -/
structure GSc (sc : Scope) (x : Str) : Prop where
  kind : sc.kind = .function
  co : sc.isCoroutine = false
  cell : ∀ y ∈ sc.names, y.2 ≠ .cell
  free : ∀ y ∈ sc.names, y.2 ≠ .free
  dot : sc.names.lookup (".0" : Str) = some NameKind.local
  loc : sc.names.lookup x = some .local
section
variable {X : Cx} {pins : List (Addr × Obj)} {σ : L2.St} {H : Hp} {s : Shared} {A : Around} {sc : Scope} {x : Str} {code : Value} {fp : List Addr}
theorem no_cells (S : GSc sc x) (cells : List (Str × Addr)) {y : Str} {c : Addr} (h : (cloFrom cells sc.names []).lookup y = some c) : False := by
  rcases cloFrom_mem (PySem.mem_of_lookup h) with z | ⟨z, _⟩
  · cases z
  · exact S.free _ z rfl
theorem gx_inv (I : Inv X pins σ H s) (S : GSc sc x) (hd : A.handled = none) (hfr : A.frames = some X.stack) (hf : ∀ b ∈ fp, FpOk X pins H b)
    (hlt : ∀ b ∈ fp, b < s.heap.objs.size) {s5 : Shared} {m : Str → Option Value} (os : s5.os = s.os) (bare : AllBare s5.gens)
    (keep : ∀ b o, s.heap.get? b = some o → s5.heap.get? b = some o) (hns : s5.heap.Ns s.heap.objs.size m) :
    Inv (gCx X A sc x code s H fp) [] [none] H s5 := by
  have nc : ∀ {y : Str} {c : Addr}, (gCx X A sc x code s H fp).env.cells.lookup y = some c → False := fun {y c} h => no_cells S _ h
  refine ⟨⟨I.ok.mod, S.kind, I.ok.glob, rfl, Nat.le_refl _, fun y z c e _ => (nc e).elim, fun y hy => ?_, fun y c _ e => (nc e).elim, fun _ => hd,
      Around.frames_deeper hfr, .inr ⟨rfl, rfl⟩, fun b hb => ⟨Nat.ne_of_lt (hlt b hb), fun y c e => (nc e).elim⟩, I.bs, Nat.le_trans I.ok.bsz I.sz,
      fun b o e hb => ?_, fun b hb z => ?_, I.stack, I.stkFree⟩,
    os, bare, Un.kept keep, ⟨m, hns, fun i y v _ e2 _ => ?_⟩, fun y c e => (nc e).elim, I.hok.fresh (Nat.le_refl _), fun y c e => (nc e).elim,
    fun p hp => ?_, I.hok.kept keep, rfl⟩
  · rcases hy with z | z
    · exact absurd rfl (S.cell _ (PySem.mem_of_lookup (show sc.names.lookup y = some .cell from z)))
    · exact absurd rfl (S.free _ (PySem.mem_of_lookup (show sc.names.lookup y = some .free from z)))
  · rcases (hf b hb).2.2.2.1 with z | z
    · exact I.ok.noex b o e z
    · exact absurd (Nat.lt_of_lt_of_le (Heap.lt_size e) (Nat.le_trans I.ok.bsz z)) (Nat.lt_irrefl _)
  · rcases List.mem_cons.mp (I.stkSub b z) with q | q
    · exact (hf b hb).2.1 q
    · exact (hf b hb).2.2.1 q
  · match i, e2 with
    | 0, e2 => cases e2
    | i + 1, e2 => simp at e2
  · exact absurd (show p ∈ ([] : List (Addr × Obj)) from hp) (by simp)
/-- only the generators' states differ -/
theorem regens {s' : Shared} (I : Inv X pins σ H s) (os : s'.os = s.os) (hh : ∀ b o, s.heap.get? b = some o → s'.heap.get? b = some o) (hb : AllBare s'.gens) : Inv X pins σ H s' :=
  I.call' (ch := []) os (Un.kept hh) (I.hok.kept hh) hb fun b z => by simp at z
/-- the consumer's own list, if it has one -/
def Held (So : Option Addr) (Rel : Array Value → Prop) (ps : List (Addr × Obj)) : Prop :=
  match So with
  | none => ps = []
  | some S => ∃ acc c, ps = [(S, lstObj acc c)] ∧ Rel acc
structure Woke (So : Option Addr) (Rel : Array Value → Prop) (s s' : Shared) : Prop where
  os : s'.os = s.os
  bare : AllBare s'.gens
  keep : ∀ b o, So ≠ some b → s.heap.get? b = some o → s'.heap.get? b = some o
  own : ∀ S, So = some S → ∃ acc' c', s'.heap.get? S = some (lstObj acc' c') ∧ Rel acc'
theorem woken {Z : Cx} {q ps : List (Addr × Obj)} {So : Option Addr} {Rel Rel' : Array Value → Prop} {s' : Shared} (I : Inv Z (q ++ ps) σ H s) (hps : Held So Rel ps) (hq : ∀ p ∈ Z.pn ++ q, So ≠ some p.1)
    (hS : ∀ S, So = some S → Z.s_0.heap.objs.size ≤ S ∧ S ≠ Z.env.locals ∧ ∀ y c, Z.env.cells.lookup y = some c → c ≠ S) (k : Woke So Rel' s s') :
    ∃ ps', Held So Rel' ps' ∧ Inv Z (q ++ ps') σ H s' ∧ ∀ p ∈ ps', s'.heap.get? p.1 = some p.2 := by
  cases So with
  | none =>
    have e : ps = [] := hps
    subst e
    exact ⟨[], rfl, regens I k.os (fun b o e => k.keep b o (by simp) e) k.bare, fun p hp => by simp at hp⟩
  | some S =>
    obtain ⟨acc, c, e, _⟩ := hps
    subst e
    obtain ⟨h1, h2, h3, h4, _⟩ := I.pin (S, lstObj acc c) (List.mem_append_right _ (List.mem_append_right _ (List.mem_singleton.mpr rfl)))
    obtain ⟨acc', c', e', hR⟩ := k.own S rfl
    obtain ⟨g1, g2, g3⟩ := hS S rfl
    have I0 : Inv Z q σ H s := I.pins_of fun p hp => I.pin p (List.mem_append_right _ (List.mem_append_left _ hp))
    have nS : ∀ b u, H b = some u → b ≠ S := fun b u e z => by rw [z, h2] at e; cases e
    have kp : ∀ b o, b ≠ S → s.heap.get? b = some o → s'.heap.get? b = some o := fun b o hb e => k.keep b o (fun z => hb (Option.some.inj z).symm) e
    have ni : ∀ b : Addr, b ∉ [S] → b ≠ S := fun b hb e => hb (by rw [e]; exact List.mem_singleton.mpr rfl)
    have J : Inv Z q σ H s' := by
      refine I0.call' (ch := [S]) k.os ⟨fun b o e _ _ hx => kp b o (ni b hx) e, fun b o e _ _ hx => ⟨o.slots, kp b o (ni b hx) e⟩, fun _ _ _ n _ => n, fun b o e hx => ⟨o, kp b o (ni b hx) e⟩,
        fun _ _ e => e, fun _ _ _ e => e, fun _ _ e => ⟨#[], by rw [e]; simp⟩⟩ (fun b u e => ?_) k.bare fun b hb => ?_
      · refine (I0.hok b u e).stay (fun d v hd z => kp d v ?_ z) (fun _ z => z) fun _ _ z => z
        rcases hd with z | z
        · rw [z]; exact nS b u e
        · exact nS d _ z
      · have eb : b = S := List.mem_singleton.mp hb
        subst eb
        exact ⟨.inr g1, g2, g3, fun p hp z => hq p hp (by rw [z])⟩
    refine ⟨[(S, lstObj acc' c')], ⟨acc', c', rfl, hR⟩, J.pins_of fun p hp => ?_, fun p hp => by rw [List.mem_singleton.mp hp]; exact e'⟩
    rcases List.mem_append.mp hp with z | z
    · exact J.pin p (List.mem_append_right _ z)
    · rw [List.mem_singleton.mp z]
      exact ⟨e', h2, h3, h4, fun v z => by cases z⟩
abbrev WT := Nat → List V → Hp → Prop
/-- an item is handed out -/
def GYx (Z : Cx) (q : List (Addr × Obj)) (So : Option Addr) (Rel : List V → Array Value → Prop) (W : WT) (Ny : Nat → List V → V → Hp → Prop) : Protocol := fun n s₀ v s1 kap =>
  ∃ m ys y σ H ps, m < n + 1 ∧ RelV y v ∧ Held So (Rel ys) ps ∧ (∀ p ∈ ps, s₀.heap.get? p.1 = some p.2) ∧ Inv Z (q ++ ps) σ H s1 ∧ Ny m ys y H ∧ ∀ s', Woke So (Rel (ys ++ [y])) s1 s' → ∀ m', m' < m → W m' (ys ++ [y]) H → kap (.send .none) s'
def GFx (Z : Cx) (q : List (Addr × Obj)) (So : Option Addr) (Rel : List V → Array Value → Prop) (Ns : List V → Hp → Prop) (s₀ s1 : Shared) : Prop :=
  ∃ ys σ H ps, Held So (Rel ys) ps ∧ (∀ p ∈ ps, s₀.heap.get? p.1 = some p.2) ∧ Inv Z (q ++ ps) σ H s1 ∧ Ns ys H
abbrev GRx (Z : Cx) (q : List (Addr × Obj)) (So : Option Addr) (Rel : List V → Array Value → Prop) (Ns : List V → Hp → Prop) : GenEnd := fun n s₀ r s₁ =>
  ((r = .ok (.ret .none) ∨ r = .ok .next) ∧ (fun (_ : Nat) (t : Shared) s => GFx Z q So Rel Ns t s) n s₀ s₁) ∨ ∃ e, r = .error e ∧ (fun (_ : Value) (_ : Shared) => False) e s₁
theorem seg_turns {elt iter : Expr} {px : Pos} {pos : Pos} {it : Addr} {J : It} {tn : Nat → Heap → Prop} {te : TE} {W : WT} {Ny : Nat → List V → V → Hp → Prop} {Ns : List V → Hp → Prop} {s4 : Shared} {H4 : Hp}
    {q : List (Addr × Obj)} {So : Option Addr} {Rel : List V → Array Value → Prop}
    (S : GSc sc x) (T : Turn X.prog X.w X.K (.Name x px) J fp it tn)
    (stat : ∀ b ∈ fp, b ≠ s4.heap.objs.size ∧ b ∉ frs X.stack ∧ (∀ p ∈ q, p.1 ≠ b) ∧ So ≠ some b)
    (hq : ∀ p ∈ q, So ≠ some p.1) (hS : ∀ S', So = some S' → s4.heap.objs.size < S')
    (he : PE (gCx X A sc x code s4 H4 fp) elt te)
    (step : ∀ m ys H, W m ys H → (J.stop ys.length H ∧ Ns ys H) ∨ (J.go ys.length H ∧ ∀ v H', J.yld ys.length H v H' → te [some v] H' (Ny m ys))) :
    ∀ (n m : Nat) (ys : List V) (s₀ s : Shared) (σ : L2.St) (H : Hp) (ps : List (Addr × Obj)), m < n → Held So (Rel ys) ps → (∀ p ∈ ps, s₀.heap.get? p.1 = some p.2) → W m ys H → Inv (gCx X A sc x code s4 H4 fp) (q ++ ps) σ H s → tn ys.length s.heap → (∀ b ∈ fp, H b = none) →
      Seg (model X.prog X.w) A (GRx (gCx X A sc x code s4 H4 fp) q So Rel Ns) (GYx (gCx X A sc x code s4 H4 fp) q So Rel W Ny) n s₀
        (.compLoop (.GeneratorExp elt [⟨.Name x px, iter, [], 0⟩] sc pos) 0 (.ref it) .none (gE X sc s4.heap.objs.size code))
        ((model X.prog X.w).den (.compLoop (.GeneratorExp elt [⟨.Name x px, iter, [], 0⟩] sc pos) 0 (.ref it) .none (gE X sc s4.heap.objs.size code))) [] s := by
  have nc : ∀ {y : Str} {c : Addr}, (gCx X A sc x code s4 H4 fp).env.cells.lookup y = some c → False := fun {y c} h => no_cells S _ h
  intro n
  induction n with
  | zero => intro m _ _ _ _ _ _ hm; exact absurd hm (Nat.not_lt_zero _)
  | succ n ih =>
    intro m ys s₀ s σ H ps hm hps hs0 hW I htn hfn
    have fok : ∀ {H' : Hp}, (∀ b ∈ fp, H' b = none) → ∀ b ∈ fp, FpOk (gCx X A sc x code s4 H4 fp) (q ++ ps) H' b := fun {H'} hn b hb => by
      obtain ⟨a1, a2, a3, a4⟩ := stat b hb
      refine ⟨hn b hb, a1, a2, .inl hb, fun y c e => (nc e).elim, fun p hp => ?_⟩
      rcases List.mem_append.mp (show p ∈ q ++ ps from hp) with z | z
      · exact a3 p z
      · cases So with
        | none =>
          have e : ps = [] := hps
          rw [e] at z
          simp at z
        | some S' =>
          obtain ⟨acc, c, e, _⟩ := hps
          rw [e] at z
          rw [List.mem_singleton.mp z]
          exact fun w => a4 (by rw [← w])
    show Seg _ A _ _ _ s₀ _ ((compTurn (.GeneratorExp elt [⟨.Name x px, iter, [], 0⟩] sc pos) 0 (.ref it) .none (gE X sc s4.heap.objs.size code)).onRaise (leaving (gE X sc s4.heap.objs.size code))) [] s
    rw [compTurn_gen, Sem.onRaise_eq_wrap]
    refine seg_bind_wrap (wpAny_standAt ?_)
    rcases step m ys H hW with ⟨stop, qn⟩ | ⟨go, st⟩
    · refine seg_bind_wrap (thn (T.done (gCx X A sc x code s4 H4 fp) rfl rfl rfl rfl ys.length (q ++ ps) s σ H _ I (fok hfn) htn stop) fun r s5 ⟨hr, I5⟩ => ?_)
      subst hr
      exact seg_end (.ok .next) (.inl ⟨.inr rfl, ys, σ, H, ps, hps, hs0, I5, qn⟩)
    · refine seg_bind_wrap (thn (T.item (gCx X A sc x code s4 H4 fp) rfl rfl rfl rfl ys.length (q ++ ps) s σ H _ I (fok hfn) htn go) fun r s5 ⟨u, hr, h5⟩ => ?_)
      subst hr
      refine seg_bind_wrap (thn h5 fun _ s6 ⟨v, H6, I6, r6, y6, tn6, fn6⟩ => ?_)
      have I6' := I6.pinned (fok fn6) (T.obj _ _ tn6)
      have pg : PG (gCx X A sc x code s4 H4 fp) (.Name x px) (gName 0) := pg_name (i := 0) (List.nodup_cons.mpr ⟨by simp, List.nodup_nil⟩) rfl (.inl S.loc) (.inr S.loc)
      have eσ : σ.set 0 (some v) = [some v] := by
        have hl : σ.length = 1 := I.len
        match σ, hl with
        | [_], _ => rfl
      refine seg_bind_wrap (wpAny_mono (pg.run _ s6 σ H6 v u (fun σ' H' => σ' = [some v] ∧ H' = H6) I6' r6 ⟨eσ, rfl⟩) (fun _ s7 h7 => ?_) fun _ _ z => z.elim)
      obtain ⟨σ7, H7, I7, eσ7, eH7⟩ := h7
      subst eσ7 eH7
      simp only [List.forIn_nil]
      refine seg_bind_wrap (wpAny_pure ?_)
      simp only [if_true]
      have hy : ∀ v, yieldOut (gE X sc s4.heap.objs.size code) v = yieldValue v := fun v => by
        simp only [yieldOut, show (gE X sc s4.heap.objs.size code).scope.isCoroutine = false from S.co, Bool.false_eq_true, if_false]
      simp only [hy]
      rw [Sem.bind_eq_wrap', Sem.bind_eq_wrap', Sem.wrap_wrap, Sem.wrap_wrap]
      refine seg_wrap (wpAny_mono (he.run _ s7 [some v] H7 _ I7 (st v H7 y6)) (fun w s8 h8 => ?_) fun _ _ z => z.elim)
      obtain ⟨y, H8, I8, r8, ny⟩ := h8
      have fn8 : ∀ b ∈ fp, H8 b = none := fun b hb => by
        obtain ⟨o, e, d⟩ := T.obj _ _ tn6 b hb
        exact (I8.pin (b, o) (List.mem_append_right _ (List.mem_append_right _ (mem_pinsAt hb e)))).2.1
      have tn8 : tn (ys.length + 1) s8.heap := T.keep _ _ _ tn6 fun b hb o e => (I8.pin (b, o) (List.mem_append_right _ (List.mem_append_right _ (mem_pinsAt hb e)))).1
      refine seg_at (seg_yield rfl rfl rfl ⟨m, ys, y, [some v], H8, ps, hm, r8, hps, hs0, I8.unpinned, ny, fun s9 wk m' hm' w' => ?_⟩)
      obtain ⟨ps', hps', I9, e9⟩ := woken I8.unpinned hps (fun p hp => hq p hp) (fun S' e => ⟨Nat.le_of_lt (hS S' e), Nat.ne_of_gt (hS S' e), fun y c e => (nc e).elim⟩) wk
      refine seg_again rfl (ih m' (ys ++ [y]) s9 s9 [some v] H8 ps' (by omega) hps' e9 w' I9 ?_ fn8)
      rw [List.length_append, List.length_singleton]
      exact T.keep _ _ _ tn8 fun b hb o e => wk.keep b o (stat b hb).2.2.2 e
end
end Gx
namespace Gx
open PySem PySem.Spec PyProof.Rows L2 GenW
section
variable {X : Cx} {pins : List (Addr × Obj)} {σ : L2.St} {H : Hp} {s : Shared} {sc : Scope} {x : Str}
theorem seg_begin {A : Around} {elt iter : Expr} {px pos : Pos} {it : Addr} {J : It} {fp : List Addr} {tn : Nat → Heap → Prop} {cenv : Env} {R : GenEnd} {Y : Protocol} {n : Nat} {s₀ : Shared}
    (T : Turn X.prog X.w X.K (.Name x px) J fp it tn) (ht : tn 0 s.heap)
    (loop : Seg (model X.prog X.w) A R Y n s₀ (.compLoop (.GeneratorExp elt [⟨.Name x px, iter, [], 0⟩] sc pos) 0 (.ref it) .none cenv) ((model X.prog X.w).den (.compLoop (.GeneratorExp elt [⟨.Name x px, iter, [], 0⟩] sc pos) 0 (.ref it) .none cenv)) [] s) :
    Seg (model X.prog X.w) A R Y n s₀ (.compStart (.GeneratorExp elt [⟨.Name x px, iter, [], 0⟩] sc pos) 0 (.ref it) .none cenv) ((model X.prog X.w).den (.compStart (.GeneratorExp elt [⟨.Name x px, iter, [], 0⟩] sc pos) 0 (.ref it) .none cenv)) [] s := by
  show Seg _ A R Y n s₀ _ ((compStart (.GeneratorExp elt [⟨.Name x px, iter, [], 0⟩] sc pos) 0 (.ref it) .none cenv).onRaise (leaving cenv)) [] s
  unfold compStart
  rw [Sem.onRaise_eq_wrap]
  show Seg _ A R Y n s₀ _ ((ask >>= _).wrap _ _ _ _) [] s
  refine seg_bind_wrap (wpAny_askSetting ?_)
  split
  · exact seg_again rfl loop
  · first
      | exact seg_bind_wrap (wpAny_rule (seg_bind_wrap (wpAny_standAt (seg_bind_wrap (T.self _ 0 s _ _ ht (seg_again rfl loop))))))
      | (refine seg_bind_wrap (wpAny_rule ?_); show Seg _ A R Y n s₀ _ ((standAt iter.pos >>= _).wrap _ _ _ _) [] s; exact seg_bind_wrap (wpAny_standAt (seg_bind_wrap (T.self _ 0 s _ _ ht (seg_again rfl loop)))))
/-- the reading of a generator expression: W the state between two turns, by a measure, what was handed out, the heap -/
def tGen (P : Addr) (wi : TI) (te : TE) (NyOf : WT → Nat → List V → V → Hp → Prop) (Ns : List V → Hp → Prop) : L2.St → Hp → Prop := fun σ H =>
  wi σ H fun J H1 => GxR.TabG H1 P ∧ ∀ H2, GxR.Tabbed P H1 H2 → ∃ W : WT, (∃ m, W m [] H2) ∧ ∀ m ys H, W m ys H →
    (J.stop ys.length H ∧ Ns ys H) ∨ (J.go ys.length H ∧ ∀ v H', J.yld ys.length H v H' → te [some v] H' (NyOf W m ys))
theorem code_step {A : Around} {E : Value → Shared → Prop} {Q : Value → Shared → Prop} {c P : Addr} {gpos : Pos} (I : Inv X pins σ H s) (TB : GxR.TabB X.base X.mg c P) (hcode : X.env.code = .ref c) (hT : GxR.TabG H P)
    (h : ∀ (code : Value) (H3 : Hp) (s3 : Shared), GxR.Tabbed P H H3 → Inv X pins σ H3 s3 → (∀ b o, b ≠ P → s.heap.get? b = some o → s3.heap.get? b = some o) → Q code s3) :
    wpAny (model X.prog X.w) A (genexprCode X.env gpos (X.env.qual ++ "<genexpr>") sc) Q E s := by
  obtain ⟨ps, hP, ht⟩ := id hT
  have hPs : s.heap.get? P = some { cls := .none, data := .fields ps } := I.hok P _ hP
  have cd : PySem.W.CodeHd s.heap c P := TB.code.keeps I.bk
  cases hf : codeAmong gpos ps.toList with
  | none =>
    refine wpAny_genexprCodeX hcode (cd.code hPs ht) (cd.tab hPs) hf fun c' h' tk hx hge hlt hco' _ htab' _ => ?_
    obtain ⟨o1, vs, f1, tf, fl, tg, inF, tx, tt, op, _, _, _, _, _, _, _, _, _, htr, _⟩ := hco'
    have J := GxR.inv_tab (t' := tk) (g' := s.gens) (d' := s.drawn) I hP (fun b o hb e => hx b o hb e) htab'.2 I.bare
    exact h _ _ _ ⟨⟨_, upd_same, htr⟩, fun b hb => upd_ne hb⟩ J fun b o hb e => hx b o hb e
  | some cv =>
    refine wpAny_genexprCode_hit hcode (cd.code hPs ht) hf ?_
    exact h _ H s ⟨hT, fun _ _ => rfl⟩ I fun _ _ _ e => e
end
end Gx
namespace Gx
open PySem PySem.Spec PyProof.Rows L2 GenW
section
variable {X : Cx} {pins : List (Addr × Obj)} {σ : L2.St} {H : Hp} {s : Shared} {sc : Scope} {x : Str}
/-- a generator that has not begun, at a in s5 -/
def Begun1 (X : Cx) (pins : List (Addr × Obj)) (σ : L2.St) (k : Nat) (Rel : List V → Array Value → Prop) (NyOf : WT → Nat → List V → V → Hp → Prop) (Ns : List V → Hp → Prop) (a : Addr) (s5 : Shared) : Prop :=
  ∃ (g : Nat) (c : Code) (H4 : Hp), s5.heap.IsGen a g ∧ s5.gens[g]? = some (.fresh c) ∧ Inv X pins σ H4 s5 ∧ a < s5.heap.objs.size ∧
    ∀ (A : Around) (So : Option Addr) (s6 : Shared), Room (k + 1) A → A.frames = some X.stack → (∀ S, So = some S → s5.heap.objs.size ≤ S ∧ ∃ acc c, s6.heap.get? S = some (lstObj acc c) ∧ Rel [] acc) →
      (∀ b o, s5.heap.get? b = some o → s6.heap.get? b = some o) → s6.os = s5.os → AllBare s6.gens →
      ∃ (Z : Cx) (q : List (Addr × Obj)) (W : WT) (m0 : Nat),
        (∀ ps σz Hz s7, Inv Z (q ++ ps) σz Hz s7 → Inv X pins σ Hz s7 ∧ s7.heap.IsGen a g) ∧
        Seg (model X.prog X.w) A (GRx Z q So Rel Ns) (GYx Z q So Rel W (NyOf W)) (m0 + 1) s6 c ((model X.prog X.w).den c) [] s6
theorem gx_make {elt iter : Expr} {px gpos : Pos} {c P : Addr} {wi : TI} {te : TE} {k j : Nat} {Rel : List V → Array Value → Prop} {NyOf : WT → Nat → List V → V → Hp → Prop} {Ns : List V → Hp → Prop} {Q' : Value → Shared → Prop}
    (hr : Room j X.A) (TB : GxR.TabB X.base X.mg c P) (hcode : X.env.code = .ref c) (S : GSc sc x) (hi : PI X (.Name x px) iter wi)
    (he : ∀ (A : Around) (code : Value) (s4 : Shared) (H4 : Hp) (fp : List Addr), Room k (A.deeper (gE X sc s4.heap.objs.size code)) → PE (gCx X A sc x code s4 H4 fp) elt te)
    (hs : ∀ v, genFold iter X.env v = pure v) (I : Inv X pins σ H s) (h : tGen P wi te NyOf Ns σ H)
    (hQ : ∀ a s5, Begun1 X pins σ k Rel NyOf Ns a s5 → Q' (.ref a) s5) :
    wpAny (model X.prog X.w) X.A (eval (.GeneratorExp elt [⟨.Name x px, iter, [], 0⟩] sc gpos) X.env) Q' X.xe s := by
  refine wpAny_GeneratorExp_make S.co (closure_ok fun y hy z => absurd z (S.free y hy)) S.cell S.dot S.kind hr.depth ?_ hs
  refine thn (hi.run pins s σ H _ I h) fun xv s1 h1 => thn h1 fun itv s2 h2 => ?_
  obtain ⟨it, fp, tn, J, H2, e, I2, T, st2, f2, hT, hW⟩ := h2
  subst e
  refine ⟨I2.nolimit, code_step I2 TB hcode hT fun code H3 s3 hTb I3 kp3 => ?_⟩
  obtain ⟨bm, ob, e1, e2, e3, e4, e5, e6, e7, e8⟩ := TB.bm
  refine wpAny_builtinsFor (m := X.mg) (by rw [I3.ok.glob]; exact I3.mod.glob.keeps I3.bk) e1 e2 (I3.bk _ _ e5) e6 e7 e8 fun h' hn' hs' => ?_
  obtain ⟨W, ⟨m0, w0⟩, step⟩ := hW H3 hTb
  have hTP : H2 P ≠ none := by
    obtain ⟨ps, z, _⟩ := hT
    rw [z]; exact fun q => nomatch q
  have nP : ∀ b ∈ fp, b ≠ P := fun b hb z => hTP (by rw [← z]; exact (f2 b hb).1)
  have f3 : ∀ b ∈ fp, FpOk X pins H3 b := fun b hb => ⟨(hTb.2 b (nP b hb)).trans (f2 b hb).1, (f2 b hb).2⟩
  have tn3 : tn 0 s3.heap := T.keep _ _ _ st2 fun b hb o q => kp3 b o (nP b hb) q
  have lt3 : ∀ b ∈ fp, b < s3.heap.objs.size := fun b hb => by
    obtain ⟨o, q, _⟩ := T.obj _ _ tn3 b hb
    exact Heap.lt_size q
  have hsz : h'.objs.size = s3.heap.objs.size + 1 := by rw [hs'.1, Heap.size_push]
  have kp' : ∀ b o, s3.heap.get? b = some o → h'.get? b = some o := fun b o q => hs'.extBut b o (Nat.ne_of_lt (Heap.lt_size q)) (Heap.get?_push_of_some _ q)
  refine hQ _ _ ⟨s3.gens.size, _, H3, ⟨_, _, _, Heap.get?_push_size _ rfl, rfl, rfl, rfl⟩, Array.getElem?_push_size .., ?_, ?_, fun A So s6 hrA hfr hSo kp6 os6 b6 => ?_⟩
  · exact regens I3 rfl (fun b o q => Heap.get?_push_of_some _ (kp' b o q)) (AllBare.push I3.bare rfl)
  · show h'.objs.size < (h'.push _).objs.size
    rw [Heap.size_push]; exact Nat.lt_succ_self _
  · have kp36 : ∀ b o, s3.heap.get? b = some o → s6.heap.get? b = some o := fun b o q => kp6 b o (Heap.get?_push_of_some _ (kp' b o q))
    have hns6 : s6.heap.Ns s3.heap.objs.size (fun y => if y = ".0" then some (.ref it) else none) := by
      obtain ⟨o, es, ep, ho, r⟩ := hn'
      exact ⟨o, es, ep, kp6 _ _ (Heap.get?_push_of_some _ ho), r⟩
    have IZ := gx_inv (code := code) (A := A) I3 S hrA.hd hfr f3 lt3 (s5 := s6) os6 b6 kp36 hns6
    have big : ∀ b, s3.heap.objs.size < b → H3 b = none ∧ b ≠ s3.heap.objs.size ∧ b ∉ frs X.stack := fun b hb => by
      refine ⟨I3.hok.fresh (Nat.le_of_lt hb), Nat.ne_of_gt hb, fun z => ?_⟩
      rcases List.mem_cons.mp (I3.stkSub b z) with w | w
      · exact absurd (Nat.lt_trans (by rw [w]; exact I3.lt) hb) (Nat.lt_irrefl _)
      · exact I3.nofs (Nat.le_of_lt hb) w
    have ha : s3.heap.objs.size < h'.objs.size := by rw [hsz]; exact Nat.lt_succ_self _
    have hga := kp6 h'.objs.size _ (Heap.get?_push_size _ rfl)
    have hSb : ∀ S', So = some S' → h'.objs.size < S' := fun S' z => by
      have q := (hSo S' z).1
      have q' : (h'.push _).objs.size ≤ S' := q
      rw [Heap.size_push] at q'
      exact q'
    obtain ⟨ps, hps, IZ2⟩ : ∃ ps, Held So (Rel []) ps ∧ Inv (gCx X A sc x code s3 H3 fp) ([(h'.objs.size, _)] ++ ps) [none] H3 s6 := by
      cases So with
      | none =>
        refine ⟨[], rfl, IZ.pins_of fun p hp => ?_⟩
        rw [List.append_nil] at hp
        rw [List.mem_singleton.mp hp]
        obtain ⟨b1, b2, b3⟩ := big _ ha
        exact ⟨hga, b1, b2, b3, fun v z => by cases z⟩
      | some S' =>
        obtain ⟨_, acc, cc, q2, hR⟩ := hSo S' rfl
        refine ⟨[(S', lstObj acc cc)], ⟨acc, cc, rfl, hR⟩, IZ.pins_of fun p hp => ?_⟩
        rcases List.mem_append.mp hp with z | z
        · rw [List.mem_singleton.mp z]
          obtain ⟨b1, b2, b3⟩ := big _ ha
          exact ⟨hga, b1, b2, b3, fun v z => by cases z⟩
        · rw [List.mem_singleton.mp z]
          obtain ⟨b1, b2, b3⟩ := big _ (Nat.lt_trans ha (hSb S' rfl))
          exact ⟨q2, b1, b2, b3, fun v z => by cases z⟩
    have hSne : ∀ b, b ≤ h'.objs.size → So ≠ some b := fun b hb z => absurd (Nat.lt_of_lt_of_le (hSb b z) hb) (Nat.lt_irrefl _)
    refine ⟨gCx X A sc x code s3 H3 fp, [(h'.objs.size, { cls := .type "generator", data := .fields #[.int s3.gens.size 0, .str "<genexpr>" (s3.toks + 1), .str (X.env.qual ++ "<genexpr>") (s3.toks + 1 + 1)] })], W, m0, fun ps σz Hz s7 J7 => ⟨?_, ?_⟩, ?_⟩
    · refine I3.call' (ch := fp) J7.os J7.base J7.hok J7.bare fun b hb => ?_
      obtain ⟨_, a2, _, a4, a5, a6⟩ := f3 b hb
      exact ⟨a4, a2, a5, a6⟩
    · exact ⟨_, _, _, (J7.pin _ (List.mem_append_right _ (List.mem_append_left _ (List.mem_singleton.mpr rfl)))).1, rfl, rfl, rfl⟩
    · refine seg_begin T (T.keep _ _ _ tn3 fun b hb o q => kp36 b o q) ?_
      refine seg_turns S T (fun b hb => ⟨Nat.ne_of_lt (lt3 b hb), fun z => ?_, fun p hp z => ?_, hSne b (Nat.le_of_lt (Nat.lt_trans (lt3 b hb) ha))⟩) (fun p hp => ?_) (fun S' z => Nat.lt_trans ha (hSb S' z)) (he A code s3 H3 fp (hrA.deeper _)) step
        (m0 + 1) m0 [] s6 s6 [none] H3 ps (Nat.lt_succ_self _) hps (fun p hp => (IZ2.pin p (List.mem_append_right _ (List.mem_append_right _ hp))).1) w0 IZ2 (T.keep _ _ _ tn3 fun b hb o q => kp36 b o q) fun b hb => (f3 b hb).1
      · rcases List.mem_cons.mp (I3.stkSub b z) with w | w
        · exact (f3 b hb).2.1 w
        · exact (f3 b hb).2.2.1 w
      · rw [List.mem_singleton.mp hp] at z
        have q : h'.objs.size = b := z
        exact absurd (Nat.lt_trans (lt3 b hb) ha) (by rw [q]; exact Nat.lt_irrefl _)
      · rw [List.mem_singleton.mp hp]
        exact hSne _ (Nat.le_refl _)
end
end Gx
namespace Gx
open PySem PySem.Spec PyProof.Rows L2 GenW
section
variable {X : Cx} {pins : List (Addr × Obj)} {σ : L2.St} {H : Hp} {s : Shared} {sc : Scope} {x : Str}
def NyAll (Qb : Bool → Hp → Prop) (W : WT) : Nat → List V → V → Hp → Prop := fun m ys y H => ∃ b : Bool, y = .bl b ∧ if b = true then ∃ m', m' < m ∧ W m' (ys ++ [y]) H else Qb false H
abbrev noRel : List V → Array Value → Prop := fun _ _ => True
theorem all_turns {Z : Cx} {q : List (Addr × Obj)} {W : WT} {Qb : Bool → Hp → Prop} {A : Around} {a : Addr} {g : Nat} {Rr : Result → Shared → Prop} (hh : A.handled = none) (hd : A.depth < recursionLimit)
    (fin : ∀ ps σz Hz s7, Inv Z (q ++ ps) σz Hz s7 → Inv X pins σ Hz s7 ∧ s7.heap.IsGen a g)
    (hdone : ∀ b H' s', Inv X pins σ H' s' → Qb b H' → Rr (.ok (.ret (.bool b))) s') :
    ∀ (n : Nat) (s : Shared), s.heap.IsGen a g → s.heap.NoLimit →
      (∃ gs, s.gens[g]? = some gs ∧ gs.Goes (model X.prog X.w) A.in1.in1 (GRx Z q none noRel fun _ => Qb true) (GYx Z q none noRel W (NyAll Qb W)) n (.send .none) (s.setGen g .running)) →
      codeAny (model X.prog X.w) A (.builtin "all.loop" ⟨[.ref a], []⟩) Rr s := by
  intro n
  induction n using Nat.strongRecOn with
  | ind n ih =>
    intro s hg hl ⟨gs, hgs, hgo⟩
    have hgl : g < s.gens.size := (Array.getElem?_eq_some_iff.mp hgs).1
    refine codeAny_builtin F.entry_all_loop ?_; rw [Around.under_plainId F.plain_all_loop _]
    show wpAny _ A.in1 (pyNext (.ref a) >>= _) _ _ s
    refine wpAny_bind (wpAny_gsz (n := g + 1) hgl (next_genG (A := A.in1) hh hl hd hg hgs hgo (fun v s₁ gs' hbare hv => ?_) (fun s₁ hp h' hk => ?_) fun e s₁ he => he.elim))
    · intro hsz
      obtain ⟨m, ys, y, σz, Hz, ps, hm, rv, hps, _, J, ⟨b, eb, hb⟩, hkap⟩ := hv
      subst eb
      have eps : ps = [] := hps
      subst eps
      have ev : v = Value.bool b := rv
      subst ev
      obtain ⟨I1, g1⟩ := fin _ _ _ _ J
      have hsz1 : g < s₁.gens.size := by
        have q1 : (s₁.setGen g gs').gens.size = s₁.gens.size := setGen_size _ _ _
        have q2 : g + 1 ≤ (s₁.setGen g gs').gens.size := hsz
        omega
      have bare2 : AllBare (s₁.setGen g gs').gens := allBare_setGen I1.bare hbare
      refine wpAny_bind (wpAny_holding (wpAny_truthy_bool ?_))
      refine wpAny_bind (wpAny_letGo ?_)
      cases b with
      | true =>
        obtain ⟨m', hm', hw⟩ : ∃ m', m' < m ∧ W m' (ys ++ [V.bl true]) Hz := by simpa using hb
        simp only [if_true]
        cases n with
        | zero => omega
        | succ n =>
          refine wpAny_pure ⟨plainId_quiet F.plain_all_loop _, ih n (Nat.lt_succ_self n) (s₁.setGen g gs') g1 I1.nolimit ⟨gs', setGen_at hsz1, ?_⟩⟩
          exact hkap ((s₁.setGen g gs').setGen g .running) ⟨rfl, allBare_setGen bare2 rfl, fun b o _ e => e, fun S z => by cases z⟩ m' hm' hw
      | false =>
        have hq : Qb false Hz := by simpa using hb
        simp only [Bool.false_eq_true, if_false]
        exact wpAny_bind (wpAny_rule (wpAny_pure (hdone false Hz _ (regens I1 rfl (fun _ _ e => e) bare2) hq)))
    · intro hsz
      obtain ⟨ys, σz, Hz, ps, hps, _, J, hq⟩ := hp
      have eps : ps = [] := hps
      subst eps
      obtain ⟨I1, g1⟩ := fin _ _ _ _ J
      exact wpAny_bind (wpAny_rule (wpAny_pure (hdone true Hz _ (regens I1 rfl (fun b o e => hk b o e) (allBare_setGen I1.bare rfl)) hq)))
/-- all(elt for x in iter) -/
def tAllG (P : Addr) (wi : TI) (te : TE) : TE := fun σ H Q => tGen P wi te (NyAll fun b H => Q (.bl b) H) (fun _ H => Q (.bl true) H) σ H
theorem pe_allG {elt iter : Expr} {px p pos gpos : Pos} {c P : Addr} {wi : TI} {te : TE} {k : Nat}
    (hr : Room (k + 3) X.A) (hg : Gl X "all") (hm : X.mg "all" = none) (TB : GxR.TabB X.base X.mg c P) (hcode : X.env.code = .ref c) (S : GSc sc x) (hi : PI X (.Name x px) iter wi)
    (he : ∀ (A : Around) (code : Value) (s4 : Shared) (H4 : Hp) (fp : List Addr), Room k (A.deeper (gE X sc s4.heap.objs.size code)) → PE (gCx X A sc x code s4 H4 fp) elt te)
    (hs : ∀ v, genFold iter X.env v = pure v)
    (hst : starEach [.GeneratorExp elt [⟨.Name x px, iter, [], 0⟩] sc gpos] X.env = (false, eval (.GeneratorExp elt [⟨.Name x px, iter, [], 0⟩] sc gpos) X.env) :: starEach [] X.env := by rfl) :
    PE X (.Call (.Name "all" p) [.GeneratorExp elt [⟨.Name x px, iter, [], 0⟩] sc gpos] [] pos) (tAllG P wi te) := by
  refine ⟨fun pins s σ H Q I h => ?_⟩
  have hb : bootBuiltins "all" = some (.builtin "all") := by decide +kernel
  refine wpAny_Call_Name_kw (ld_blt I hg hm hb (PyProof.Rows.callWith_builtin1 ?_ hst (by rfl)))
  rw [hst]
  show wpAny _ _ (spliced ((false, eval (.GeneratorExp elt [⟨.Name x px, iter, [], 0⟩] sc gpos) X.env) :: backTo pos (starEach [] X.env))) _ _ s
  refine Calls.spliced_cons (gx_make (k := k) (Rel := noRel) hr TB hcode S hi he hs I h fun a s5 hB => Calls.spliced_nil ?_)
  obtain ⟨g, cd, H4, hgen, hfresh, I5, ha, wake⟩ := hB
  refine call_function_tree F.kind_all F.plain_all F.entry_all (F.args_all1 _) ?_
  unfold Builtin.«all»
  refine wpAny_bind (m := oneArg "all" _) (wpAny_pure (wpAny_bind (wpAny_pyIter_gen hgen ?_)))
  obtain ⟨Z, q, W, m0, fin, seg⟩ := wake X.A.in1.in1 none (s5.setGen g .running) ((hr.mono (by omega : k + 1 + 1 + 1 ≤ k + 3)).in1.in1) I.ok.frames (fun S z => by cases z) (fun _ _ e => e) rfl (allBare_setGen I5.bare rfl)
  refine wpAny_pure ⟨plainId_quiet F.plain_all_loop _, all_turns (Qb := fun b H => Q (.bl b) H) hr.hd hr.depth fin (fun b H' s' I' hq => ?_) (m0 + 1) s5 hgen I5.nolimit ⟨_, hfresh, rfl, seg⟩⟩
  exact ⟨.bl b, H', I', rfl, hq⟩
end
end Gx
namespace Gx
open PySem PySem.Spec PyProof.Rows L2 GenW
section
variable {X : Cx} {pins : List (Addr × Obj)} {σ : L2.St} {H : Hp} {s : Shared} {sc : Scope} {x : Str}
theorem MaxRel.first {i : Int} {t : Tok} {ys : List V} (h : MaxRel ys #[]) : MaxRel (ys ++ [.int i]) #[.int i t, .int i t] := by
  obtain ⟨ns, rfl, h | ⟨b, u, e, _⟩⟩ := h
  · rw [h.1]
    exact ⟨[i], rfl, .inr ⟨i, t, rfl, by simp, by simp⟩⟩
  · have := congrArg Array.size e
    simp at this
theorem MaxRel.more {i b : Int} {t u : Tok} {ys : List V} (h : MaxRel ys #[.int b u, .int b u]) : MaxRel (ys ++ [.int i]) (if decide (i > b) = true then #[.int i t, .int i t] else #[.int b u, .int b u]) := by
  obtain ⟨ns, rfl, h | ⟨b', u', e, hb, hm⟩⟩ := h
  · have := congrArg Array.size h.2
    simp at this
  · have e' : b = b' := by
      have := congrArg (fun a : Array Value => a[0]?) e
      simp at this
      exact this.1
    subst e'
    refine ⟨ns ++ [i], by simp, .inr ?_⟩
    by_cases hi : i > b
    · rw [if_pos (decide_eq_true hi)]
      refine ⟨i, t, rfl, by simp, fun z hz => ?_⟩
      rcases List.mem_append.mp hz with q | q
      · exact Int.le_of_lt (Int.lt_of_le_of_lt (hm z q) hi)
      · rw [List.mem_singleton.mp q]; exact Int.le_refl _
    · rw [if_neg (by rw [decide_eq_false hi]; exact Bool.false_ne_true)]
      refine ⟨b, u, rfl, List.mem_append_left _ hb, fun z hz => ?_⟩
      rcases List.mem_append.mp hz with q | q
      · exact hm z q
      · rw [List.mem_singleton.mp q]; omega
end
end Gx
namespace TG
open PySem L2
/-- the built-ins that the text calls are the built-ins still -/
structure Txt (mg : Str → Option Value) : Prop where
  isin : mg "isinstance" = none
  len : mg "len" = none
  range : mg "range" = none
  max : mg "max" = none
  min : mg "min" = none
  all : mg "all" = none
  str : mg "str" = none
  int : mg "int" = none
  bool : mg "bool" = none
  list : mg "list" = none
  tuple : mg "tuple" = none
  enum : mg "enumerate" = none
  ord : mg "ord" = none
def BoxAt (H : Hp) (b l : Addr) : Prop := ∃ (ns : List Int) (st : Int), H b = some (.lst [.ref l, .int st]) ∧ H l = some (.lst (ns.map V.int)) ∧ ns.length ≤ 63
/-- all but the box stays -/
def KB (b l : Addr) (H H' : Hp) : Prop := ∀ c o, H c = some o → c ≠ b → c ≠ l → H' c = some o
theorem KB.refl {b l : Addr} {H : Hp} : KB b l H H := fun _ _ h _ _ => h
theorem KB.trans {b l : Addr} {H H1 H2 : Hp} (x : KB b l H H1) (y : KB b l H1 H2) : KB b l H H2 := fun c o h n m => y c o (x c o h n m) n m
theorem box_ne {H : Hp} {b l : Addr} (x : BoxAt H b l) : b ≠ l := by
  obtain ⟨ns, st, h1, h2, _⟩ := x
  refine ne_of h1 h2 fun z => ?_
  injection z with z
  cases ns with
  | nil => cases z
  | cons n ns =>
    rw [List.map_cons] at z
    injection z with z _
    cases z
theorem nz {i : Int} (h : i ≠ 0) : i ≠ 0 := h
theorem at0 {α : Type} {v : α} {xs : List α} : atI (v :: xs) 0 = some v := atI_nat (j := 0) rfl
theorem ix0 {n : Nat} : ixN (n + 1) 0 = some 0 := by
  unfold ixN
  rw [if_pos (by decide), if_pos (by omega)]
  rfl
theorem small0 : ([] : List V).length ≤ sizeLine := Nat.zero_le _
theorem dp_ints {K : PySem.W.Frag} {H : Hp} : ∀ ns : List Int, DpAll K H (ns.map V.int) (ns.map PyData.int)
  | [] => .nil
  | n :: ns => .cons (.int n) (dp_ints ns)
theorem canAll_ints : ∀ ns : List Int, PyData.canLayAll0 (ns.map PyData.int) = true
  | [] => rfl
  | _ :: r => by simp [PyData.canLayAll0, PyData.canLay0, canAll_ints r]
theorem depthAll_ints : ∀ ns : List Int, PyData.depthAll (ns.map PyData.int) = 0
  | [] => rfl
  | _ :: r => by simp [PyData.depthAll, PyData.depth, depthAll_ints r]
theorem shaped_of_ints (ns : List Int) : SeqAt.shaped (.list (ns.map PyData.int)) = true := by
  simp [SeqAt.shaped, PyData.canLay0, PyData.depth, canAll_ints, depthAll_ints]
def spTake : Sp := fun vs H Q _ => ∃ (b l : Addr) (many : Int), vs = [.ref b, .int many] ∧ BoxAt H b l ∧ 0 < many ∧ many < 1073741824 ∧
  ∀ (r : Int) (H' : Hp), 0 ≤ r → r < many → BoxAt H' b l → KB b l H H' → Q (.int r) H'
section
variable {P : Program} {w : World} {K : PySem.W.Frag} {mg : Str → Option Value} {base : Heap}
theorem sc_take : FnScope ["_law_box", "_law_many", "_law_number"] ["_law_box", "_law_many"] (defScope s_take) := ⟨rfl, rfl, rfl, by decide +kernel, rfl, by decide +kernel, by decide +kernel⟩
theorem ok_take {f : Addr} {fd : FuncData} (F : Fun K "_law_take" "_law_take" s_take f fd) : FnOk P w K mg base CX0 1 f fd ["_law_box", "_law_many"] spTake := by
  refine F.ok sc_take (fun vs H Q E h => ?_) (fun cdv A outer s H vs Q E hr h => ?_)
  · obtain ⟨b, l, many, rfl, _⟩ := h
    rfl
  · obtain ⟨b, l, many, rfl, hB, m0, m1, k⟩ := h
    have nd := sc_take.nd
    have hu := hr.units
    refine ⟨_, pss_cons (ps_if (pt_cmpR (op_eqD hu) (pe_ix ix_list (pv 0) pe_int (fun _ _ => rfl)) (pe_lst pa_nil) (nomark _))
        (pss_cons (ps_asg (pe_op op_modN (pe_op op_mul (pe_ix ix_list (pv 0) pe_int (fun _ _ => rfl)) pe_int) pe_int) (pg_sub (pv 0) pe_int set_list))
          (pss_one (ps_ret (pe_op op_modN (pe_op op_fdivN (pe_ix ix_list (pv 0) pe_int (fun _ _ => rfl)) pe_int) (pv 1))))) pss_nil)
      (pss_cons (ps_set (i := 2) nd rfl (.inl rfl) (pe_ix ix_list (pe_ix ix_list (pv 0) pe_int (fun _ _ => rfl)) pe_int (fun _ _ => rfl)))
      (pss_cons (ps_asg (pe_op op_fdivN (pv 2) (pv 1)) (pg_sub (pe_ix ix_list (pv 0) pe_int (fun _ _ => rfl)) pe_int set_list))
      (pss_cons (ps_if (PW.pt (pw_or (pt_cmpR op_eq (pe_ix ix_list (pe_ix ix_list (pv 0) pe_int (fun _ _ => rfl)) pe_int (fun _ _ => rfl)) pe_int (nomark _)) (pw_or1 (pt_cmpR op_eq (pe_ix ix_list (pe_ix ix_list (pv 0) pe_int (fun _ _ => rfl)) pe_int (fun _ _ => rfl)) (pe_un un_neg pe_int) (nomark _)))))
          (pss_one (ps_expr (pe_bm PySem.F.plainAttrs_list PySem.F.slot_list_pop PySem.F.type_list_pop mt_popAt (pe_ix ix_list (pv 0) pe_int (fun _ _ => rfl)) (pa_cons pe_int pa_nil)))) pss_nil)
      (pss_one (ps_ret (pe_op op_modN (pv 2) (pv 1))))))), ?_⟩
    obtain ⟨ns, st, h1, h2, h3⟩ := id hB
    have nbl := box_ne hB
    have len2 : ∀ o, (upd H b o) l = some (.lst (ns.map V.int)) := fun o => by rw [upd_ne nbl.symm]; exact h2
    -- _law_box[0] == []
    refine ⟨_, rfl, b, _, 0, .ref l, rfl, rfl, SqL.of h1, rfl, small0, fun p np => ?_⟩
    have npb : b ≠ p := ne_of_none h1 np
    have npl : l ≠ p := ne_of_none h2 np
    have g1 : (upd H p (.lst [])) b = some (.lst [.ref l, .int st]) := by rw [upd_ne npb]; exact h1
    have g2 : (upd H p (.lst [])) l = some (.lst (ns.map V.int)) := by rw [upd_ne npl]; exact h2
    have kp : KB b l H (upd H p (.lst [])) := fun c o e _ _ => by rw [upd_ne (ne_of_none e np)]; exact e
    refine ⟨.list (ns.map PyData.int), .list [], .lst (SqL.of g2) (dp_ints ns), .lst (SqL.of upd_same) .nil, shaped_of_ints ns, rfl, _, rfl, ?_⟩
    cases ns with
    | nil =>
      refine iteT ?_
      refine ⟨_, rfl, b, _, 1, .int st, rfl, rfl, SqL.of g1, rfl, st, 48271, rfl, rfl, .inr (by decide), _, _, rfl, rfl, nz (by decide), _, rfl, b, _, 1, 1, rfl, rfl, g1, rfl, ?_⟩
      refine ⟨_, rfl, b, _, 1, _, rfl, rfl, SqL.of upd_same, rfl, _, _, rfl, rfl, ⟨by decide, by decide⟩, _, rfl, _, _, rfl, rfl, nz (by omega), ?_⟩
      refine k _ _ (Int.fmod_nonneg_of_pos _ m0) (Int.fmod_lt_of_pos _ m0) ⟨[], _, upd_same, by rw [upd_ne nbl.symm]; exact g2, h3⟩ fun c o e hc hl => ?_
      rw [upd_ne hc]
      exact kp c o e hc hl
    | cons n ns =>
      refine iteF ?_
      refine ⟨_, rfl, b, _, 0, .ref l, rfl, rfl, SqL.of g1, rfl, l, _, 0, .int n, rfl, rfl, SqL.of g2, at0, ?_⟩
      refine ⟨_, rfl, _, rfl, n, many, rfl, rfl, ⟨by omega, by omega⟩, _, rfl, b, _, 0, .ref l, rfl, rfl, SqL.of g1, rfl, l, _, 0, 0, rfl, rfl, g2, ix0, ?_⟩
      have j1 : ∀ o, (upd (upd H p (.lst [])) l o) b = some (.lst [.ref l, .int st]) := fun o => by rw [upd_ne nbl]; exact g1
      have kl : ∀ o, KB b l H (upd (upd H p (.lst [])) l o) := fun o c u e hc hl => by rw [upd_ne hl]; exact kp c u e hc hl
      have fin : ∀ ms : List Int, ms.length ≤ 63 → Q (.int (n.fmod many)) (upd (upd H p (.lst [])) l (.lst (ms.map V.int))) := fun ms hm =>
        k _ _ (Int.fmod_nonneg_of_pos _ m0) (Int.fmod_lt_of_pos _ m0) ⟨ms, st, j1 _, upd_same, hm⟩ (kl _)
      have e0 : (List.map V.int (n :: ns)).set 0 (V.int (n.fdiv many)) = List.map V.int (n.fdiv many :: ns) := rfl
      rw [e0]
      -- == 0 or == -1
      refine ⟨_, rfl, b, _, 0, .ref l, rfl, rfl, SqL.of (j1 _), rfl, l, _, 0, .int (n.fdiv many), rfl, rfl, SqL.of upd_same, at0, rfl, _, rfl, ?_⟩
      have done : ∀ H', (∃ ms : List Int, ms.length ≤ 63 ∧ H' = upd (upd H p (.lst [])) l (.lst (ms.map V.int))) → ∃ v, ([some (V.ref b), some (V.int many), some (V.int n)] : L2.St)[2]? = some (some v) ∧ ∃ v_1, ([some (V.ref b), some (V.int many), some (V.int n)] : L2.St)[1]? = some (some v_1) ∧ ∃ i j, v = V.int i ∧ v_1 = V.int j ∧ j ≠ 0 ∧ Q (V.int (i.fmod j)) H' := fun H' ⟨ms, hm, e⟩ => by
        subst e
        exact ⟨_, rfl, _, rfl, n, many, rfl, rfl, nz (by omega), fin ms hm⟩
      have pop : ∀ Z : VK, (∀ y H', H' = upd (upd H p (.lst [])) l (.lst (ns.map V.int)) → Z y H') → rPopAt (.ref l) [.int 0] (upd (upd H p (.lst [])) l (.lst (List.map V.int (n.fdiv many :: ns)))) Z := fun Z hZ =>
        ⟨l, _, 0, 0, _, rfl, rfl, upd_same, by decide, by decide, by simp [seqIndex?], rfl, hZ _ _ (by rw [upd_upd]; rfl)⟩
      have h3' : ns.length ≤ 63 := by simp at h3; omega
      by_cases hz : n.fdiv many = 0
      · rw [decide_eq_true (show V.int (n.fdiv many) = V.int 0 by rw [hz])]
        refine iteT (iteT ⟨_, rfl, b, _, 0, .ref l, rfl, rfl, SqL.of (j1 _), rfl, .inl ⟨rfl, _, SqL.of upd_same⟩, pop _ fun y H' e => done H' ⟨ns, h3', e⟩⟩)
      · rw [decide_eq_false (show ¬ V.int (n.fdiv many) = V.int 0 from fun z => hz (by injection z))]
        refine iteF ⟨_, rfl, b, _, 0, .ref l, rfl, rfl, SqL.of (j1 _), rfl, l, _, 0, .int (n.fdiv many), rfl, rfl, SqL.of upd_same, at0, 1, rfl, rfl, _, rfl, ?_⟩
        refine ite2 (fun _ => ⟨_, rfl, b, _, 0, .ref l, rfl, rfl, SqL.of (j1 _), rfl, .inl ⟨rfl, _, SqL.of upd_same⟩, pop _ fun y H' e => done H' ⟨ns, h3', e⟩⟩) fun _ => ?_
        exact done _ ⟨n.fdiv many :: ns, h3, rfl⟩
end
end TG
namespace TG
open PySem L2
section
variable {P : Program} {w : World} {K : PySem.W.Frag} {mg : Str → Option Value} {base : Heap}
def spBegun (K : PySem.W.Frag) : Sp := fun vs H Q _ => ∃ (a : Addr) (ns : List Int), vs = [.ref a] ∧ SqL K H a (ns.map V.int) ∧ ns.length ≤ 63 ∧
  ∀ (b l : Addr) (H' : Hp), BoxAt H' b l → Same H H' → H b = none → H l = none → Q (.ref b) H'
theorem sc_begun : FnScope ["_law_script", "_law_stirred", "_law_cell_here"] ["_law_script"] (defScope s_begun) := ⟨rfl, rfl, rfl, by decide +kernel, rfl, by decide +kernel, by decide +kernel⟩
theorem ok_begun {f : Addr} {fd : FuncData} (T : Txt mg) (F : Fun K "_law_begun" "_law_begun" s_begun f fd) : FnOk P w K mg base CX0 1 f fd ["_law_script"] (spBegun K) := by
  refine F.ok sc_begun (fun vs H Q E h => ?_) (fun cdv A outer s H vs Q E hr h => ?_)
  · obtain ⟨a, ns, rfl, _⟩ := h
    rfl
  · obtain ⟨a, ns, rfl, hS, hl, k⟩ := h
    have nd := sc_begun.nd
    refine ⟨_, pss_cons (ps_set (i := 1) nd rfl (.inl rfl) pe_int) (pss_cons (ps_for PassesOwn.never rfl (pi_list (pv 0)) (pg_name (i := 2) nd rfl (.inl rfl))
        (pss_one (ps_set (i := 1) nd rfl (.inl rfl) (pe_op op_modN (pe_op op_add (pe_op op_add (pe_op op_mul (pv 1) pe_int) (pe_op op_mul (pv 2) pe_int)) pe_int) pe_int))))
      (pss_one (ps_ret (pe_lst (pa_cons (pe_callTy call_list_of (by rfl) T.list (by decide +kernel) (pa_cons (pv 0) pa_nil))
        (pa_cons (pe_op op_mul (pv 1) (pe_callTy call_int1 (by rfl) T.int (by decide +kernel) (pa_cons (pe_cmpR op_gt (pe_callB call_len_seq (by rfl) T.len PySem.boot_len (pa_cons (pv 0) pa_nil)) pe_int (nomark _)) pa_nil))) pa_nil)))))), ?_⟩
    refine ⟨_, rfl, a, rfl, ⟨_, hS⟩, for_list (xs := ns.map V.int) (fun _ σ H1 => H1 = H ∧ ∃ st c, σ = [some (.ref a), some (.int st), c]) ⟨rfl, 0, _, rfl⟩ (fun i σ H1 _ p => by rw [p.1]; exact hS) ?_ ?_⟩
    · rintro i x σ H1 hx ⟨rfl, st, c, rfl⟩
      obtain ⟨n, rfl⟩ : ∃ n, x = V.int n := by
        rw [List.getElem?_map] at hx
        cases e : ns[i]? with
        | none => rw [e] at hx; cases hx
        | some n => rw [e] at hx; cases hx; exact ⟨n, rfl⟩
      exact ⟨_, rfl, st, 48271, rfl, rfl, .inr (by decide), _, rfl, n, 69621, rfl, rfl, .inr (by decide), _, _, rfl, rfl, _, 11, rfl, rfl, _, 2147483647, rfl, rfl, nz (by decide), rfl, _, _, rfl⟩
    · rintro σ H1 ⟨rfl, st, c, rfl⟩
      refine ⟨_, rfl, a, _, rfl, .inl hS, fun l nl => ?_⟩
      have hS2 : SqL K (upd H1 l (.lst (ns.map V.int))) a (ns.map V.int) := by
        rcases hS with (z | ⟨o, z⟩) | z
        · exact .inl (.inl (by rw [upd_ne (ne_of_none z nl)]; exact z))
        · exact .inl (.inr ⟨o, by rw [upd_ne (ne_of_none z nl)]; exact z⟩)
        · exact .inr z
      refine ⟨_, rfl, _, rfl, a, _, rfl, .inl hS2, _, 2, rfl, rfl, .inr ⟨_, rfl, st, _, rfl, rfl, .inr (by split <;> decide), (by show 2 ≤ sizeLine; decide), fun b nb => ?_⟩⟩
      have nb1 : H1 b = none := by
        by_cases e : b = l
        · rw [e, upd_same] at nb; cases nb
        · rw [upd_ne e] at nb; exact nb
      have nlb : l ≠ b := fun z => by rw [← z, upd_same] at nb; cases nb
      refine k b l _ ⟨ns, _, upd_same, by rw [upd_ne nlb, upd_same], hl⟩ (fun c o e => ?_) nb1 nl
      rw [upd_ne (ne_of_none e nb1), upd_ne (ne_of_none e nl)]
      exact e
mutual
def dok : PyData → Bool
  | .list xs | .tuple xs => decide (xs.length ≤ 1000) && dokAll xs
  | .dict _ => false
  | .none | .bool _ | .int _ | .str _ => true
def dokAll : List PyData → Bool
  | [] => true
  | x :: xs => dok x && dokAll xs
end
theorem dokAll_get : ∀ {ds : List PyData} {i : Nat} {d : PyData}, dokAll ds = true → ds[i]? = some d → dok d = true
  | [], _, _, _, h => by simp at h
  | x :: xs, 0, d, h, e => by
    simp only [dokAll, Bool.and_eq_true] at h
    cases e
    exact h.1
  | x :: xs, i + 1, d, h, e => by
    simp only [dokAll, Bool.and_eq_true] at h
    exact dokAll_get h.2 (by simpa using e)
theorem depthAll_get : ∀ {ds : List PyData} {i : Nat} {d : PyData}, ds[i]? = some d → d.depth ≤ PyData.depthAll ds
  | [], _, _, h => by simp at h
  | x :: xs, 0, d, e => by
    cases e
    simp only [PyData.depthAll]
    exact Nat.le_max_left _ _
  | x :: xs, i + 1, d, e => by
    simp only [PyData.depthAll]
    exact Nat.le_trans (depthAll_get (i := i) (by simpa using e)) (Nat.le_max_right _ _)
theorem dp_len {H : Hp} : ∀ {vs : List V} {ds : List PyData}, DpAll K H vs ds → vs.length = ds.length
  | [], [], _ => rfl
  | _ :: _, _ :: _, h => by
    cases h with
    | cons _ t => rw [List.length_cons, List.length_cons, dp_len t]
theorem dp_get {H : Hp} : ∀ {vs : List V} {ds : List PyData} {i : Nat} {v : V}, DpAll K H vs ds → vs[i]? = some v → ∃ d, ds[i]? = some d ∧ Dp K H v d
  | [], [], _, _, _, h => by simp at h
  | x :: vs, y :: ds, 0, v, h, e => by
    cases h with
    | cons h1 _ =>
      cases e
      exact ⟨y, rfl, h1⟩
  | x :: vs, y :: ds, i + 1, v, h, e => by
    cases h with
    | cons _ h2 => simpa using dp_get (i := i) h2 (by simpa using e)
theorem ty_list {H : Hp} {a : Addr} {xs : List V} (h : SqL K H a xs) : TyX K H (.ref a) (.type "list") := by
  rcases h with (z | ⟨o, z⟩) | ⟨o, its, n, z, c, _⟩
  · exact .base (.lst z)
  · exact .base (.frz z)
  · exact .kList z c
theorem ty_tup {H : Hp} {a : Addr} {xs : List V} (h : SqT K H a xs) : TyX K H (.ref a) (.type "tuple") := by
  rcases h with (z | ⟨o, z⟩) | ⟨o, its, n, z, c, _⟩
  · exact .base (.tup z)
  · exact .fTuple z
  · exact .kTuple z c
def spAlike (K : PySem.W.Frag) (n : Nat) : Sp := fun vs H Q _ => ∃ (x y : V) (d : PyData), vs = [x, y] ∧ Dp K H x d ∧ Dp K H y d ∧ d.depth < n ∧ dok d = true ∧ Q (.bl true) H
theorem sc_alike : FnScope ["_law_found", "_law_due_here", "_law_k"] ["_law_found", "_law_due_here"] (defScope s_alike) := ⟨rfl, rfl, rfl, by decide +kernel, rfl, by decide +kernel, by decide +kernel⟩
theorem ok_alike {f : Addr} {fd : FuncData} (T : Txt mg) (F : Fun K "_law_alike" "_law_alike" s_alike f fd) (b : Binds K fd ["_law_found", "_law_due_here"] []) (mgf : mg "_law_alike" = some (.ref f)) : ∀ n, FnOk P w K mg base CX0 (n + 1) f fd ["_law_found", "_law_due_here"] (spAlike K n) := by
  intro n
  induction n with
  | zero =>
    refine F.ok sc_alike (fun vs H Q E h => ?_) (fun cdv A outer s H vs Q E hr h => ?_)
    · obtain ⟨x, y, d, rfl, _⟩ := h
      rfl
    · obtain ⟨x, y, d, rfl, _, _, h, _⟩ := h
      exact absurd h (Nat.not_lt_zero _)
  | succ n G =>
    refine F.ok sc_alike (fun vs H Q E h => ?_) (fun cdv A outer s H vs Q E hr h => ?_)
    · obtain ⟨x, y, d, rfl, _⟩ := h
      rfl
    · obtain ⟨x, y, d, rfl, hx, hy, hd, hk, k⟩ := h
      have nd := sc_alike.nd
      refine ⟨_, pss_cons (ps_if (pt_cmpR op_isN (pv 1) pe_non (nomark _)) (pss_one (ps_ret (pe_cmpR op_isN (pv 0) pe_non (nomark _)))) pss_nil)
        (pss_cons (ps_if (pt_val (pe_callB call_isi (by rfl) T.isin (by decide +kernel) (pa_cons (pv 1) (pa_cons (pe_bltn (v := .ty "bool") (by rfl) T.bool (by decide +kernel) rfl) pa_nil)))) (pss_one (ps_ret (pe_and (pe_callB call_isi (by rfl) T.isin (by decide +kernel) (pa_cons (pv 0) (pa_cons (pe_bltn (v := .ty "bool") (by rfl) T.bool (by decide +kernel) rfl) pa_nil))) (pe_one (pe_cmpR op_eq (pv 0) (pv 1) (nomark _)))))) pss_nil)
        (pss_cons (ps_if (pt_val (pe_callB call_isi (by rfl) T.isin (by decide +kernel) (pa_cons (pv 1) (pa_cons (pe_bltn (v := .ty "int") (by rfl) T.int (by decide +kernel) rfl) pa_nil)))) (pss_one (ps_ret (pe_and (pe_callB call_isi (by rfl) T.isin (by decide +kernel) (pa_cons (pv 0) (pa_cons (pe_bltn (v := .ty "int") (by rfl) T.int (by decide +kernel) rfl) pa_nil))) (pe_and (pe_not (pe_callB call_isi (by rfl) T.isin (by decide +kernel) (pa_cons (pv 0) (pa_cons (pe_bltn (v := .ty "bool") (by rfl) T.bool (by decide +kernel) rfl) pa_nil)))) (pe_one (pe_cmpR op_eq (pv 0) (pv 1) (nomark _))))))) pss_nil)
        (pss_cons (ps_if (pt_val (pe_callB call_isi (by rfl) T.isin (by decide +kernel) (pa_cons (pv 1) (pa_cons (pe_bltn (v := .ty "str") (by rfl) T.str (by decide +kernel) rfl) pa_nil)))) (pss_one (ps_ret (pe_and (pe_callB call_isi (by rfl) T.isin (by decide +kernel) (pa_cons (pv 0) (pa_cons (pe_bltn (v := .ty "str") (by rfl) T.str (by decide +kernel) rfl) pa_nil))) (pe_one (pe_cmpR op_eq (pv 0) (pv 1) (nomark _)))))) pss_nil)
        (pss_cons (ps_if (PW.pt (pw_or (pt_cmpR op_ne (pe_callB call_isi (by rfl) T.isin (by decide +kernel) (pa_cons (pv 1) (pa_cons (pe_bltn (v := .ty "tuple") (by rfl) T.tuple (by decide +kernel) rfl) pa_nil))) (pe_callB call_isi (by rfl) T.isin (by decide +kernel) (pa_cons (pv 0) (pa_cons (pe_bltn (v := .ty "tuple") (by rfl) T.tuple (by decide +kernel) rfl) pa_nil))) (nomark _))
            (pw_or1 (pt_cmpR op_ne (pe_callB call_isi (by rfl) T.isin (by decide +kernel) (pa_cons (pv 1) (pa_cons (pe_bltn (v := .ty "list") (by rfl) T.list (by decide +kernel) rfl) pa_nil))) (pe_callB call_isi (by rfl) T.isin (by decide +kernel) (pa_cons (pv 0) (pa_cons (pe_bltn (v := .ty "list") (by rfl) T.list (by decide +kernel) rfl) pa_nil))) (nomark _))))) (pss_one (ps_ret pe_bl)) pss_nil)
        (pss_cons (ps_if (pt_cmpR op_ne (pe_callB call_len_seq (by rfl) T.len PySem.boot_len (pa_cons (pv 0) pa_nil)) (pe_callB call_len_seq (by rfl) T.len PySem.boot_len (pa_cons (pv 1) pa_nil)) (nomark _)) (pss_one (ps_ret pe_bl)) pss_nil)
        (pss_cons (ps_for PassesOwn.never rfl (pi_range1 (by rfl) T.range (pa_cons (pe_callB call_len_seq (by rfl) T.len PySem.boot_len (pa_cons (pv 1) pa_nil)) pa_nil)) (pg_name (i := 2) nd rfl (.inl rfl))
          (pss_one (ps_if (pt_not (pt_val (pe_call G hr (by rfl) mgf F.kp b .nil pass0 (pa_cons (pe_ix ix_seq (pv 0) (pv 2) (fun _ _ => rfl)) (pa_cons (pe_ix ix_seq (pv 1) (pv 2) (fun _ _ => rfl)) pa_nil))))) (pss_one (ps_ret pe_bl)) pss_nil)))
        (pss_one (ps_ret pe_bl)))))))), ?_⟩
      cases hx with
      | non =>
        cases hy
        exact ⟨_, rfl, rfl, true, rfl, iteT ⟨_, rfl, rfl, k⟩⟩
      | bl c =>
        cases hy
        exact ⟨_, rfl, rfl, false, rfl, iteF ⟨_, rfl, _, _, _, _, true, rfl, .ty _, (.base (.bl c)), kit_ty (by decide +kernel), true, rfl, iteT ⟨_, rfl, _, _, _, _, true, rfl, .ty _, (.base (.bl c)), kit_ty (by decide +kernel), true, rfl, iteT ⟨_, rfl, _, rfl, rfl, by simpa using k⟩⟩⟩⟩
      | int i =>
        cases hy
        exact ⟨_, rfl, rfl, false, rfl, iteF ⟨_, rfl, _, _, _, _, false, rfl, .ty _, (.base (.int i)), kit_ty (by decide +kernel), false, rfl, iteF ⟨_, rfl, _, _, _, _, true, rfl, .ty _, (.base (.int i)), kit_ty (by decide +kernel), true, rfl, iteT ⟨_, rfl, _, _, _, _, true, rfl, .ty _, (.base (.int i)), kit_ty (by decide +kernel), true, rfl, iteT
          ⟨_, rfl, _, _, _, _, false, rfl, .ty _, (.base (.int i)), kit_ty (by decide +kernel), false, rfl, true, rfl, iteT ⟨_, rfl, _, rfl, rfl, by simpa using k⟩⟩⟩⟩⟩⟩
      | str z =>
        cases hy
        exact ⟨_, rfl, rfl, false, rfl, iteF ⟨_, rfl, _, _, _, _, false, rfl, .ty _, (.base (.str z)), kit_ty (by decide +kernel), false, rfl, iteF ⟨_, rfl, _, _, _, _, false, rfl, .ty _, (.base (.str z)), kit_ty (by decide +kernel), false, rfl, iteF ⟨_, rfl, _, _, _, _, true, rfl, .ty _, (.base (.str z)), kit_ty (by decide +kernel), true, rfl, iteT
          ⟨_, rfl, _, _, _, _, true, rfl, .ty _, (.base (.str z)), kit_ty (by decide +kernel), true, rfl, iteT ⟨_, rfl, _, rfl, rfl, by simpa using k⟩⟩⟩⟩⟩⟩
      | @lst p xs ds sx ax =>
        cases hy with
        | @lst q ys _ sy ay =>
          refine ⟨_, rfl, rfl, false, rfl, iteF ⟨_, rfl, _, _, _, _, false, rfl, .ty _, (ty_list sy), kit_ty (by decide +kernel), false, rfl, iteF ⟨_, rfl, _, _, _, _, false, rfl, .ty _, (ty_list sy), kit_ty (by decide +kernel), false, rfl, iteF ⟨_, rfl, _, _, _, _, false, rfl, .ty _, (ty_list sy), kit_ty (by decide +kernel), false, rfl, iteF
            ⟨_, rfl, _, _, _, _, false, rfl, .ty _, (ty_list sy), kit_ty (by decide +kernel), _, rfl, _, _, _, _, false, rfl, .ty _, (ty_list sx), kit_ty (by decide +kernel), rfl, false, rfl, iteF ⟨_, rfl, _, _, _, _, true, rfl, .ty _, (ty_list sy), kit_ty (by decide +kernel), _, rfl, _, _, _, _, true, rfl, .ty _, (ty_list sx), kit_ty (by decide +kernel), rfl, false, rfl, iteF ?_⟩⟩⟩⟩⟩⟩
          simp only [dok, Bool.and_eq_true, decide_eq_true_eq] at hk
          simp only [PyData.depth] at hd
          have lx := dp_len ax
          have ly := dp_len ay
          refine ⟨_, rfl, p, xs, rfl, .inl sx, _, rfl, q, ys, rfl, .inl sy, rfl, false, by rw [lx, ly]; simp, iteF ?_⟩
          refine ⟨_, rfl, q, ys, rfl, .inl sy, _, rfl, by omega, by omega, for_range (n := (ys.length : Int).toNat) (fun _ σ H' => H' = H ∧ ∃ c, σ = [some (.ref p), some (.ref q), c]) ⟨rfl, _, rfl⟩ ?_ ?_⟩
          · rintro i σ H' hi ⟨rfl, c, rfl⟩
            have hi1 : i < xs.length := by omega
            have hi2 : i < ys.length := by omega
            obtain ⟨d1, e1, dx⟩ := dp_get ax (List.getElem?_eq_getElem hi1)
            obtain ⟨d2, e2, dy⟩ := dp_get ay (List.getElem?_eq_getElem hi2)
            rw [e1] at e2
            cases e2
            refine ⟨_, rfl, _, rfl, .inl ⟨p, xs, _, _, rfl, rfl, sx, by rw [Int.zero_add]; exact atI_nat (List.getElem?_eq_getElem hi1), ⟨_, rfl, _, rfl, .inl ⟨q, ys, _, _, rfl, rfl, sy, by rw [Int.zero_add]; exact atI_nat (List.getElem?_eq_getElem hi2), ?_⟩⟩⟩⟩
            exact ⟨_, _, d1, rfl, dx, dy, by have := depthAll_get e1; omega, dokAll_get hk.2 e1, true, rfl, iteF ⟨rfl, _, rfl⟩⟩
          · rintro σ H' ⟨rfl, c, rfl⟩
            exact k
      | @tup p xs ds sx ax =>
        cases hy with
        | @tup q ys _ sy ay =>
          refine ⟨_, rfl, rfl, false, rfl, iteF ⟨_, rfl, _, _, _, _, false, rfl, .ty _, (ty_tup sy), kit_ty (by decide +kernel), false, rfl, iteF ⟨_, rfl, _, _, _, _, false, rfl, .ty _, (ty_tup sy), kit_ty (by decide +kernel), false, rfl, iteF ⟨_, rfl, _, _, _, _, false, rfl, .ty _, (ty_tup sy), kit_ty (by decide +kernel), false, rfl, iteF
            ⟨_, rfl, _, _, _, _, true, rfl, .ty _, (ty_tup sy), kit_ty (by decide +kernel), _, rfl, _, _, _, _, true, rfl, .ty _, (ty_tup sx), kit_ty (by decide +kernel), rfl, false, rfl, iteF ⟨_, rfl, _, _, _, _, false, rfl, .ty _, (ty_tup sy), kit_ty (by decide +kernel), _, rfl, _, _, _, _, false, rfl, .ty _, (ty_tup sx), kit_ty (by decide +kernel), rfl, false, rfl, iteF ?_⟩⟩⟩⟩⟩⟩
          simp only [dok, Bool.and_eq_true, decide_eq_true_eq] at hk
          simp only [PyData.depth] at hd
          have lx := dp_len ax
          have ly := dp_len ay
          refine ⟨_, rfl, p, xs, rfl, .inr sx, _, rfl, q, ys, rfl, .inr sy, rfl, false, by rw [lx, ly]; simp, iteF ?_⟩
          refine ⟨_, rfl, q, ys, rfl, .inr sy, _, rfl, by omega, by omega, for_range (n := (ys.length : Int).toNat) (fun _ σ H' => H' = H ∧ ∃ c, σ = [some (.ref p), some (.ref q), c]) ⟨rfl, _, rfl⟩ ?_ ?_⟩
          · rintro i σ H' hi ⟨rfl, c, rfl⟩
            have hi1 : i < xs.length := by omega
            have hi2 : i < ys.length := by omega
            obtain ⟨d1, e1, dx⟩ := dp_get ax (List.getElem?_eq_getElem hi1)
            obtain ⟨d2, e2, dy⟩ := dp_get ay (List.getElem?_eq_getElem hi2)
            rw [e1] at e2
            cases e2
            refine ⟨_, rfl, _, rfl, .inr (.inl ⟨p, xs, _, _, rfl, rfl, sx, by rw [Int.zero_add]; exact atI_nat (List.getElem?_eq_getElem hi1), ⟨_, rfl, _, rfl, .inr (.inl ⟨q, ys, _, _, rfl, rfl, sy, by rw [Int.zero_add]; exact atI_nat (List.getElem?_eq_getElem hi2), ?_⟩)⟩⟩)⟩
            exact ⟨_, _, d1, rfl, dx, dy, by have := depthAll_get e1; omega, dokAll_get hk.2 e1, true, rfl, iteF ⟨rfl, _, rfl⟩⟩
          · rintro σ H' ⟨rfl, c, rfl⟩
            exact k
end
end TG
namespace Gx
open PySem PySem.Spec PyProof.Rows L2 GenW
section
variable {J : It} {n : Nat} {G : Hp → Prop} {Y : Nat → Hp → V → Hp → Prop}
/-- all over a walk whose i-th element is f i -/
theorem all_by (w : Walk J n G Y) {te : TE} {Q : VK} {H2 : Hp} (f : Nat → Bool) (Pv : Nat → Hp → Prop) (h0 : Pv 0 H2) (hG : ∀ i H, i ≤ n → Pv i H → G H)
    (hs : ∀ i v H H', i < n → Pv i H → Y i H v H' → ∀ Z : VK, (∀ H3, Pv (i + 1) H3 → Z (.bl (f i)) H3) → te [some v] H' Z)
    (hT : ∀ H, Pv n H → (∀ i, i < n → f i = true) → Q (.bl true) H) (hF : ∀ i H, i < n → f i = false → Pv (i + 1) H → Q (.bl false) H) :
    ∃ W : WT, (∃ m, W m [] H2) ∧ ∀ m ys H, W m ys H → (J.stop ys.length H ∧ (fun (_ : List V) H => Q (.bl true) H) ys H) ∨
      (J.go ys.length H ∧ ∀ v H', J.yld ys.length H v H' → te [some v] H' (NyAll (fun b H => Q (.bl b) H) W m ys)) := by
  refine ⟨fun m ys H => m = n - ys.length ∧ ys.length ≤ n ∧ Pv ys.length H ∧ ∀ i, i < ys.length → f i = true, ⟨n, by simp, Nat.zero_le _, h0, fun i hi => absurd hi (Nat.not_lt_zero _)⟩, ?_⟩
  rintro m ys H ⟨rfl, hl, hp, ht⟩
  have q := hG _ H hl hp
  by_cases hlt : ys.length < n
  · refine .inr ⟨w.goes _ H hlt q, fun v H' y => hs _ v H H' hlt hp (w.yields _ H v H' hlt q y) _ fun H3 p3 => ⟨f ys.length, rfl, ?_⟩⟩
    cases hf : f ys.length with
    | true =>
      refine iteT ⟨n - (ys.length + 1), by omega, by rw [List.length_append, List.length_singleton], by rw [List.length_append, List.length_singleton]; exact hlt, by rw [List.length_append, List.length_singleton]; exact p3, fun i hi => ?_⟩
      rw [List.length_append, List.length_singleton] at hi
      by_cases e : i = ys.length
      · rw [e]; exact hf
      · exact ht i (by omega)
    | false => exact iteF (hF _ H3 hlt hf p3)
  · have e : ys.length = n := by omega
    exact .inl ⟨by rw [e]; exact w.stops H q, hT H (e ▸ hp) fun i hi => ht i (by omega)⟩
end
def Tabs (cs : List (Addr × Addr)) (H : Hp) : Prop := ∀ p ∈ cs, GxR.TabG H p.2
theorem tab_ext {P : Addr} {H H' : Hp} (t : GxR.TabG H P) (x : GxR.Tabbed P H H') : LamX.ExtN H H' := fun b o e n => by
  by_cases hb : b = P
  · obtain ⟨ps, h1, _⟩ := t
    rw [hb, h1] at e
    cases e
    exact absurd rfl (n ps)
  · rw [x.2 b hb]; exact e
theorem tabs_tab {cs : List (Addr × Addr)} {P : Addr} {H H' : Hp} (t : Tabs cs H) (x : GxR.Tabbed P H H') : Tabs cs H' := fun p hp => by
  by_cases hb : p.2 = P
  · rw [hb]; exact x.1
  · obtain ⟨ps, h1, h2⟩ := t p hp
    exact ⟨ps, by rw [x.2 _ hb]; exact h1, h2⟩
/-- all but tables stays, the tables are tables -/
structure Ex (cs : List (Addr × Addr)) (H H' : Hp) : Prop where
  ext : LamX.ExtN H H'
  tab : Tabs cs H'
  old : ∀ b, H' b = none → H b = none
  oth : ∀ b o, H b = some o → (∀ p ∈ cs, p.2 ≠ b) → H' b = some o
theorem Ex.refl {cs : List (Addr × Addr)} {H : Hp} (t : Tabs cs H) : Ex cs H H := ⟨LamX.ExtN.refl H, t, fun _ h => h, fun _ _ e _ => e⟩
theorem Ex.trans {cs : List (Addr × Addr)} {H H1 H2 : Hp} (a : Ex cs H H1) (b : Ex cs H1 H2) : Ex cs H H2 := ⟨a.ext.trans b.ext, b.tab, fun c h => a.old c (b.old c h), fun c o e m => b.oth c o (a.oth c o e m) m⟩
theorem Ex.tabbed {cs : List (Addr × Addr)} {q : Addr × Addr} {H H' : Hp} (t : Tabs cs H) (m : q ∈ cs) (x : GxR.Tabbed q.2 H H') : Ex cs H H' := ⟨tab_ext (t q m) x, tabs_tab t x, fun b h => by
  by_cases hb : b = q.2
  · obtain ⟨ps, h1, _⟩ := x.1
    rw [hb, h1] at h
    cases h
  · rw [x.2 b hb] at h; exact h, fun b o e n => by
  rw [x.2 b (fun z => n q m z.symm)]
  exact e⟩
theorem upd_none {H : Hp} {a b : Addr} {o : HO} (h : upd H a o b = none) : H b = none ∧ b ≠ a := by
  by_cases hb : b = a
  · rw [hb, upd_same] at h; cases h
  · rw [upd_ne hb] at h; exact ⟨h, hb⟩
theorem Ex.laid {cs : List (Addr × Addr)} {H : Hp} {a : Addr} {o : HO} (t : Tabs cs H) (n : H a = none) : Ex cs H (upd H a o) :=
  ⟨fun b u e _ => by rw [upd_ne (ne_of_none e n)]; exact e, fun p hp => by
    obtain ⟨ps, h1, h2⟩ := t p hp
    exact ⟨ps, by rw [upd_ne (ne_of_none h1 n)]; exact h1, h2⟩, fun b h => (upd_none h).1, fun b u e _ => by
    rw [upd_ne (ne_of_none e n)]
    exact e⟩
/-- a new object, written again -/
theorem ex_new {cs : List (Addr × Addr)} {H H' : Hp} {D : Addr} {o : HO} (t : Tabs cs H) (e : Ex cs H H') (n : H D = none) : Ex cs H (upd H' D o) :=
  ⟨fun b u h m => by rw [upd_ne (ne_of_none h n)]; exact e.ext b u h m, fun p hp => by
    obtain ⟨ps, h1, _⟩ := t p hp
    obtain ⟨ps', h3, h4⟩ := e.tab p hp
    exact ⟨ps', by rw [upd_ne (ne_of_none h1 n)]; exact h3, h4⟩, fun b h => e.old b (upd_none h).1, fun b u h m => by
    rw [upd_ne (ne_of_none h n)]
    exact e.oth b u h m⟩
theorem Ex.lst {cs : List (Addr × Addr)} {H H' : Hp} {a : Addr} {xs : List V} (e : Ex cs H H') (h : H a = some (.lst xs)) : H' a = some (.lst xs) := e.ext _ _ h fun ps q => by cases q
theorem Ex.tup {cs : List (Addr × Addr)} {H H' : Hp} {a : Addr} {xs : List V} (e : Ex cs H H') (h : H a = some (.tup xs)) : H' a = some (.tup xs) := e.ext _ _ h fun ps q => by cases q
theorem Ex.sqL {cs : List (Addr × Addr)} {K : PySem.W.Frag} {H H' : Hp} {a : Addr} {xs : List V} (e : Ex cs H H') (h : SqL K H a xs) : SqL K H' a xs := by
  rcases h with (z | ⟨o, z⟩) | z
  · exact .inl (.inl (e.ext _ _ z fun ps q => by cases q))
  · exact .inl (.inr ⟨o, e.ext _ _ z fun ps q => by cases q⟩)
  · exact .inr z
theorem Ex.sqT {cs : List (Addr × Addr)} {K : PySem.W.Frag} {H H' : Hp} {a : Addr} {xs : List V} (e : Ex cs H H') (h : SqT K H a xs) : SqT K H' a xs := by
  rcases h with (z | ⟨o, z⟩) | z
  · exact .inl (.inl (e.ext _ _ z fun ps q => by cases q))
  · exact .inl (.inr ⟨o, e.ext _ _ z fun ps q => by cases q⟩)
  · exact .inr z
/-- a def whose code object is known -/
theorem fun_okT {P : Program} {w : World} {K : PySem.W.Frag} {mg : Str → Option Value} {base : Heap} {x qual : Str} {st : Stmt} {f c : Addr} {fd : FuncData} {N ps : List Str} {k : Nat} {sp : Sp} (F : Fun K x qual st f fd) (hc : fd.code = .ref c) (S : FnScope N ps (defScope st)) (len : ∀ vs H Q E, sp vs H Q E → vs.length = ps.length)
    (hbody : ∀ (A : Around) (outer : List Env) (s : Shared) (H : Hp) (vs : List V) (Q : VK) (E : XK), Room k (A.deeper (envOfC qual (defScope st) s.heap.objs.size f (.ref c))) → sp vs H Q E →
      ∃ t, PSs (cxOf CX0 P w K mg base N qual (defScope st) f (.ref c) A outer s H E).nox (defBody st) t ∧ t { nx := fun _ H' => Q .non H', rt := Q } (start N vs) H) : FnOk P w K mg base CX0 (k + 1) f fd ps sp := by
  obtain ⟨oc, od, kV, doc, pm, an, cdv, ct, osl, rfl, lk, hcd⟩ := F.ex
  have e : cdv = .ref c := hc
  subst e
  refine fn_of lk hcd S len fun A outer s H vs Q E hr hsp => ?_
  obtain ⟨t, h, q⟩ := hbody A outer s H vs Q E hr hsp
  exact ⟨t, h.nox, q⟩
end Gx
namespace TG
open PySem L2 Gx
structure CellOk (z : Str) : Prop where
  len : z.length ≤ 10
  sg : ∀ c ∈ z.cps.toList, SgOk c
structure RowOk (r : List Str) : Prop where
  pos : 1 ≤ r.length
  len : r.length ≤ 6
  cells : ∀ z ∈ r, CellOk z
abbrev sV (r : List Str) : List V := r.map V.str
theorem line10 {n : Nat} (h : n ≤ 1000) : n ≤ sizeLine := Nat.le_trans h (by decide)
theorem dT {c : Prop} [Decidable c] (h : c) : V.bl (decide c) = V.bl true := by rw [decide_eq_true h]
theorem dF {c : Prop} [Decidable c] (h : ¬ c) : V.bl (decide c) = V.bl false := by rw [decide_eq_false h]
theorem qN {c : Prop} [Decidable c] {Q : VK} {H : Hp} (h : ¬ c) (k : Q (.bl true) H) : Q (.bl (!decide c)) H := by rw [decide_eq_false h]; exact k
structure Consts (mg : Str → Option Value) : Prop where
  blank : ∃ t, mg "BLANK" = some (.int 32 t)
  tilde : ∃ t, mg "TILDE" = some (.int 126 t)
  percent : ∃ t, mg "PERCENT" = some (.int 37 t)
  rows : ∃ t, mg "MOST_ROWS" = some (.int 30 t)
  cells : ∃ t, mg "MOST_CELLS" = some (.int 6 t)
  signs : ∃ t, mg "MOST_SIGNS" = some (.int 10 t)
section
variable {P : Program} {w : World} {K : PySem.W.Frag} {mg : Str → Option Value} {base : Heap}
def spSg : Sp := fun vs H Q _ => ∃ c : Nat, vs = [.str ⟨#[c]⟩] ∧ SgOk c ∧ Q (.bl true) H
theorem sc_sg : FnScope ["sign"] ["sign"] (defScope s_is_sign) := ⟨rfl, rfl, rfl, by decide +kernel, rfl, by decide +kernel, by decide +kernel⟩
theorem ok_sg {f : Addr} {fd : FuncData} (T : Txt mg) (N : Consts mg) (F : Fun K "is_sign" "is_sign" s_is_sign f fd) : FnOk P w K mg base CX0 1 f fd ["sign"] spSg := by
  refine F.ok sc_sg (fun vs H Q E h => ?_) (fun cdv A outer s H vs Q E hr h => ?_)
  · obtain ⟨c, rfl, _⟩ := h
    rfl
  · obtain ⟨c, rfl, ⟨h1, h2, h3⟩, k⟩ := h
    obtain ⟨t1, e1⟩ := N.blank
    obtain ⟨t2, e2⟩ := N.tilde
    obtain ⟨t3, e3⟩ := N.percent
    refine ⟨_, pss_one (ps_ret (pe_and (pe_chain op_le op_le (pe_glob (v := .int 32) rfl e1 ⟨_, rfl⟩) (pe_callB call_ord (by rfl) T.ord (by decide +kernel) (pa_cons (pv 0) pa_nil)) (pe_glob (v := .int 126) rfl e2 ⟨_, rfl⟩))
      (pe_one (pe_cmpR op_ne (pe_callB call_ord (by rfl) T.ord (by decide +kernel) (pa_cons (pv 0) pa_nil)) (pe_glob (v := .int 37) rfl e3 ⟨_, rfl⟩) (nomark _))))), ?_⟩
    refine ⟨_, rfl, _, rfl, rfl, 32, (c : Int), rfl, rfl, true, dT (show (32 : Int) ≤ c by omega), iteT ⟨(c : Int), 126, rfl, rfl, ?_⟩⟩
    have e4 : V.bl (decide ((c : Int) ≤ 126)) = V.bl true := dT (by omega)
    refine ⟨true, e4, iteT ⟨_, rfl, _, rfl, rfl, rfl, qN (fun z => ?_) k⟩⟩
    injection z with z
    exact h3 (Int.ofNat.inj z)
def spText (cs : List (Addr × Addr)) : Sp := fun vs H Q _ => ∃ (z : Str) (m : Int), vs = [.str z, .int m] ∧ Tabs cs H ∧ (z.length : Int) ≤ m ∧ z.length ≤ 1000 ∧ (∀ c ∈ z.cps.toList, SgOk c) ∧ ∀ H', Ex cs H H' → Q (.bl true) H'
theorem sc_text : FnScope ["value", "most"] ["value", "most"] (defScope s_is_text) := ⟨rfl, rfl, rfl, by decide +kernel, rfl, by decide +kernel, by decide +kernel⟩
theorem ok_text {f c Pt g : Addr} {fd fdg : FuncData} {cs : List (Addr × Addr)} (T : Txt mg) (F : Fun K "is_text_of_signs" "is_text_of_signs" s_is_text f fd) (hc : fd.code = .ref c) (TB : GxR.TabB base mg c Pt) (hm : (c, Pt) ∈ cs)
    (G : FnOk P w K mg base CX0 1 g fdg ["sign"] spSg) (kp : PySem.W.keepIn K (.ref g) = true) (bd : Binds K fdg ["sign"] []) (mgg : mg "is_sign" = some (.ref g)) : FnOk P w K mg base CX0 5 f fd ["value", "most"] (spText cs) := by
  refine fun_okT F hc sc_text (fun vs H Q E h => ?_) (fun A outer s H vs Q E hr h => ?_)
  · obtain ⟨z, m, rfl, _⟩ := h
    rfl
  · obtain ⟨z, m, rfl, hT, h1, h2, h3, k⟩ := h
    refine ⟨_, pss_one (ps_ret (pe_and (pe_callB call_isi (by rfl) T.isin (by decide +kernel) (pa_cons (pv 0) (pa_cons (pe_bltn (v := .ty "str") (by rfl) T.str (by decide +kernel) rfl) pa_nil)))
      (pe_and (pe_cmpR op_le (pe_callB call_len_str (by rfl) T.len PySem.boot_len (pa_cons (pv 0) pa_nil)) (pv 1) (nomark _))
        (pe_one (pe_allG (k := 1) (P := Pt) hr (by rfl) T.all TB rfl ⟨rfl, rfl, by decide +kernel, by decide +kernel, rfl, rfl⟩ (pi_str (pv 0)) (fun A' code s4 H4 fp hr' => pe_call G hr' (by rfl) mgg kp bd .nil pass0 (pa_cons (pv 0) pa_nil)) (fun _ => rfl)))))), ?_⟩
    refine ⟨_, rfl, _, _, _, _, true, rfl, .ty _, .base (.str z), kit_ty (by decide +kernel), true, rfl, iteT ⟨_, rfl, z, rfl, line10 h2, _, rfl, _, _, rfl, rfl, true, dT h1, iteT ⟨_, rfl, z, rfl, hT _ hm, fun H2 hH2 => ?_⟩⟩⟩
    refine all_by (w := walk_str (z := z)) (fun _ => true) (fun _ H' => H' = H2) rfl (fun _ _ _ _ => trivial) (fun i v H3 H4 hi e y Z hZ => ?_) (fun H3 e _ => ?_) (fun i H3 _ e _ => by cases e)
    · obtain ⟨rfl, c, hc, rfl⟩ := y
      subst e
      refine ⟨_, rfl, c, rfl, h3 c ?_, hZ _ rfl⟩
      exact List.mem_of_getElem? (by rw [Array.getElem?_toList]; exact hc)
    · subst e
      exact k _ (Ex.tabbed hT hm hH2)
end
end TG
namespace TG
open PySem L2 Gx
/-- a page: its rows' tuples at as -/
structure PageAt (K : PySem.W.Frag) (H : Hp) (a : Addr) (as : List Addr) (rows : List (List Str)) : Prop where
  lst : SqL K H a (as.map V.ref)
  len : as.length = rows.length
  row : ∀ (i : Nat) (p : Addr) (r : List Str), as[i]? = some p → rows[i]? = some r → SqT K H p (sV r)
structure PgOk (rows : List (List Str)) : Prop where
  pos : 1 ≤ rows.length
  len : rows.length ≤ 30
  rows : ∀ r ∈ rows, RowOk r
theorem PageAt.ex {K : PySem.W.Frag} {cs : List (Addr × Addr)} {H H' : Hp} {a : Addr} {as : List Addr} {rows : List (List Str)} (p : PageAt K H a as rows) (e : Ex cs H H') : PageAt K H' a as rows :=
  ⟨e.sqL p.lst, p.len, fun i q r h1 h2 => e.sqT (p.row i q r h1 h2)⟩
theorem get_map {α β : Type} {f : α → β} {xs : List α} {i : Nat} {y : β} (h : (xs.map f)[i]? = some y) : ∃ x, xs[i]? = some x ∧ y = f x := by
  rw [List.getElem?_map] at h
  cases e : xs[i]? with
  | none => rw [e] at h; cases h
  | some x => rw [e] at h; cases h; exact ⟨x, rfl, rfl⟩
theorem getP {α : Type} {xs : List α} {i : Nat} (h : i < xs.length) : ∃ x, xs[i]? = some x := ⟨xs[i], List.getElem?_eq_getElem h⟩
section
variable {P : Program} {w : World} {K : PySem.W.Frag} {mg : Str → Option Value} {base : Heap} {cs : List (Addr × Addr)}
def spRow (K : PySem.W.Frag) (cs : List (Addr × Addr)) : Sp := fun vs H Q _ => ∃ (a : Addr) (r : List Str), vs = [.ref a] ∧ Tabs cs H ∧ SqT K H a (sV r) ∧ RowOk r ∧ ∀ H', Ex cs H H' → Q (.bl true) H'
theorem sc_row : FnScope ["value"] ["value"] (defScope s_is_row) := ⟨rfl, rfl, rfl, by decide +kernel, rfl, by decide +kernel, by decide +kernel⟩
theorem ok_isrow {f c Pt g : Addr} {fd fdg : FuncData} (T : Txt mg) (N : Consts mg) (F : Fun K "is_row" "is_row" s_is_row f fd) (hc : fd.code = .ref c) (TB : GxR.TabB base mg c Pt) (hm : (c, Pt) ∈ cs)
    (G : FnOk P w K mg base CX0 5 g fdg ["value", "most"] (spText cs)) (kp : PySem.W.keepIn K (.ref g) = true) (bd : Binds K fdg ["value", "most"] []) (mgg : mg "is_text_of_signs" = some (.ref g)) : FnOk P w K mg base CX0 9 f fd ["value"] (spRow K cs) := by
  refine fun_okT F hc sc_row (fun vs H Q E h => ?_) (fun A outer s H vs Q E hr h => ?_)
  · obtain ⟨a, r, rfl, _⟩ := h
    rfl
  · obtain ⟨a, r, rfl, hT, hS, ⟨p1, p2, p3⟩, k⟩ := h
    obtain ⟨t1, e1⟩ := N.cells
    obtain ⟨t2, e2⟩ := N.signs
    refine ⟨_, pss_cons (ps_if (PW.pt (pw_or (pt_not (pt_val (pe_callB call_isi (by rfl) T.isin (by decide +kernel) (pa_cons (pv 0) (pa_cons (pe_bltn (v := .ty "tuple") (by rfl) T.tuple (by decide +kernel) rfl) pa_nil)))))
        (pw_or1 (pt_not (pt_chain op_le op_le pe_int (pe_callB call_len_seq (by rfl) T.len PySem.boot_len (pa_cons (pv 0) pa_nil)) (pe_glob (v := .int 6) rfl e1 ⟨_, rfl⟩)))))) (pss_one (ps_ret pe_bl)) pss_nil)
      (pss_one (ps_ret (pe_allG (k := 5) (P := Pt) hr (by rfl) T.all TB rfl ⟨rfl, rfl, by decide +kernel, by decide +kernel, rfl, rfl⟩ (pi_tup (pv 0))
        (fun A' code s4 H4 fp hr' => pe_call G hr' (by rfl) mgg kp bd .nil pass0 (pa_cons (pv 0) (pa_cons (pe_glob (v := .int 10) rfl e2 ⟨_, rfl⟩) pa_nil))) (fun _ => rfl)))), ?_⟩
    have hl : (sV r).length = r.length := List.length_map ..
    refine ⟨_, rfl, _, _, _, _, true, rfl, .ty _, ty_tup hS, kit_ty (by decide +kernel), true, rfl, iteF ⟨_, rfl, a, _, rfl, .inr hS, 1, _, rfl, rfl, true, dT (by omega), iteT ⟨_, 6, rfl, rfl, true, dT (by omega), iteF ?_⟩⟩⟩
    refine ⟨_, rfl, a, rfl, ⟨_, hS⟩, hT _ hm, fun H2 hH2 => ?_⟩
    have x2 := Ex.tabbed hT hm hH2
    refine all_by (w := walk_tup (a := a) (xs := sV r)) (fun _ => true) (fun _ H' => Ex cs H H') x2 (fun i H' _ x => x.sqT hS) (fun i v H3 H4 hi x y Z hZ => ?_) (fun H3 x _ => k _ x) (fun i H3 _ e _ => by cases e)
    obtain ⟨rfl, hv⟩ := y
    obtain ⟨z, hz, rfl⟩ := get_map hv
    obtain ⟨c1, c2⟩ := p3 z (List.mem_of_getElem? hz)
    exact ⟨_, rfl, z, 10, rfl, x.tab, by omega, by omega, c2, fun H5 x5 => hZ _ (x.trans x5)⟩
def spCheck (K : PySem.W.Frag) (cs : List (Addr × Addr)) : Sp := fun vs H Q _ => ∃ (a : Addr) (as : List Addr) (rows : List (List Str)), vs = [.ref a] ∧ Tabs cs H ∧ PageAt K H a as rows ∧ PgOk rows ∧ ∀ H', Ex cs H H' → Q .non H'
theorem sc_misfit : FnScope ["rows", "number", "row"] ["rows"] (defScope s_misfit) := ⟨rfl, rfl, rfl, by decide +kernel, rfl, by decide +kernel, by decide +kernel⟩
theorem ok_misfit {f g : Addr} {fd fdg : FuncData} (T : Txt mg) (N : Consts mg) (F : Fun K "first_misfit" "first_misfit" s_misfit f fd)
    (G : FnOk P w K mg base CX0 9 g fdg ["value"] (spRow K cs)) (kp : PySem.W.keepIn K (.ref g) = true) (bd : Binds K fdg ["value"] []) (mgg : mg "is_row" = some (.ref g)) : FnOk P w K mg base CX0 10 f fd ["rows"] (spCheck K cs) := by
  refine F.ok sc_misfit (fun vs H Q E h => ?_) (fun cdv A outer s H vs Q E hr h => ?_)
  · obtain ⟨a, as, rows, rfl, _⟩ := h
    rfl
  · obtain ⟨a, as, rows, rfl, hT, hP, hO, k⟩ := h
    have nd := sc_misfit.nd
    obtain ⟨t1, e1⟩ := N.rows
    refine ⟨_, pss_cons (ps_for PassesOwn.never rfl (pi_enum (by rfl) T.enum (pa_cons (pv 0) pa_nil)) (pg_tup rfl (pgs_cons (pg_name (i := 1) nd rfl (.inl rfl)) (pgs_cons (pg_name (i := 2) nd rfl (.inl rfl)) pgs_nil)))
        (pss_one (ps_if (PW.pt (pw_or (pt_cmpR op_eq (pv 1) (pe_glob (v := .int 30) rfl e1 ⟨_, rfl⟩) (nomark _)) (pw_or1 (pt_not (pt_val (pe_call G hr (by rfl) mgg kp bd .nil pass0 (pa_cons (pv 2) pa_nil))))))) (pss_one ps_never) pss_nil)))
      (pss_one (ps_ret pe_non)), ?_⟩
    have hl : (as.map V.ref).length = rows.length := by rw [List.length_map]; exact hP.len
    have := hO.pos
    have := hO.len
    refine ⟨_, rfl, a, _, rfl, hP.lst, for_it (walk_enum (xs := as.map V.ref)) (fun _ σ H' => Ex cs H H' ∧ σ[0]? = some (some (.ref a)) ∧ σ.length = 3) ⟨Ex.refl hT, rfl, rfl⟩ (fun i σ H' _ x => x.1.sqL hP.lst) ?_ ?_⟩
    · rintro i x σ H3 H4 hi ⟨x3, s0, sl⟩ ⟨Tp, v, u, rfl, hn, rfl, hv, hu⟩
      cases hv
      obtain ⟨p, hp, rfl⟩ := get_map hu
      have hi2 : i < rows.length := by omega
      obtain ⟨r, hr2⟩ := getP hi2
      have xl := Ex.laid (o := .tup [.int (i : Nat), .ref p]) x3.tab hn
      refine ⟨Tp, _, rfl, .inl (.inl upd_same), rfl, _, _, rfl, _, _, rfl, rfl, ?_⟩
      have g1 : ((σ.set 1 (some (V.int (i : Nat)))).set 2 (some (V.ref p)))[1]? = some (some (V.int (i : Nat))) := by
        rw [List.getElem?_set_ne (by decide)]
        exact List.getElem?_set_self (by omega)
      have g2 : ((σ.set 1 (some (V.int (i : Nat)))).set 2 (some (V.ref p)))[2]? = some (some (V.ref p)) := List.getElem?_set_self (by rw [List.length_set]; omega)
      refine ⟨_, g1, rfl, false, dF (fun z => by injection z with z; omega), iteF ⟨_, g2, p, r, rfl, xl.tab, (x3.trans xl).sqT (hP.row i p r hp hr2), hO.rows r (List.mem_of_getElem? hr2), fun H5 x5 => ⟨true, rfl, iteF ⟨(x3.trans xl).trans x5, ?_, ?_⟩⟩⟩⟩
      · rw [List.getElem?_set_ne (by decide), List.getElem?_set_ne (by decide)]; exact s0
      · rw [List.length_set, List.length_set]; exact sl
    · rintro σ H' ⟨x, _⟩
      exact k H' x
theorem sc_check : FnScope ["page", "number"] ["page"] (defScope s_check_page) := ⟨rfl, rfl, rfl, by decide +kernel, rfl, by decide +kernel, by decide +kernel⟩
theorem ok_check {f g : Addr} {fd fdg : FuncData} (T : Txt mg) (F : Fun K "check_page" "check_page" s_check_page f fd)
    (G : FnOk P w K mg base CX0 10 g fdg ["rows"] (spCheck K cs)) (kp : PySem.W.keepIn K (.ref g) = true) (bd : Binds K fdg ["rows"] []) (mgg : mg "first_misfit" = some (.ref g)) : FnOk P w K mg base CX0 11 f fd ["page"] (spCheck K cs) := by
  refine F.ok sc_check (fun vs H Q E h => ?_) (fun cdv A outer s H vs Q E hr h => ?_)
  · obtain ⟨a, as, rows, rfl, _⟩ := h
    rfl
  · obtain ⟨a, as, rows, rfl, hT, hP, hO, k⟩ := h
    have nd := sc_check.nd
    refine ⟨_, pss_cons (ps_if (PW.pt (pw_or (pt_not (pt_val (pe_callB call_isi (by rfl) T.isin (by decide +kernel) (pa_cons (pv 0) (pa_cons (pe_bltn (v := .ty "list") (by rfl) T.list (by decide +kernel) rfl) pa_nil)))))
        (pw_or1 (pt_cmpR op_eq (pe_callB call_len_seq (by rfl) T.len PySem.boot_len (pa_cons (pv 0) pa_nil)) pe_int (nomark _))))) (pss_one ps_never) pss_nil)
      (pss_cons (ps_set (i := 1) nd rfl (.inl rfl) (pe_call G hr (by rfl) mgg kp bd .nil pass0 (pa_cons (pv 0) pa_nil)))
      (pss_one (ps_if (pt_cmpR op_notN (pv 1) pe_non (nomark _)) (pss_one ps_never) pss_nil))), ?_⟩
    have hl : (as.map V.ref).length = rows.length := by rw [List.length_map]; exact hP.len
    have := hO.pos
    have := hO.len
    refine ⟨_, rfl, _, _, _, _, true, rfl, .ty _, ty_list hP.lst, kit_ty (by decide +kernel), true, rfl, iteF ⟨_, rfl, a, _, rfl, .inl hP.lst, rfl, false, dF (fun z => by injection z with z; omega), iteF ?_⟩⟩
    exact ⟨_, rfl, a, as, rows, rfl, hT, hP, hO, fun H' x => ⟨_, rfl, rfl, false, rfl, iteF (k H' x)⟩⟩
structure StyleAt (K : PySem.W.Frag) (H : Hp) (a : Addr) (gap least : Int) : Prop where
  tup : SqT K H a [.int gap, .int least]
  g0 : 0 ≤ gap
  g1 : gap ≤ 4
  l0 : 0 ≤ least
  l1 : least ≤ 12
end
end TG
namespace TG
open PySem L2 Gx
abbrev cl (z : Str) : List Nat := z.cps.toList
def restL (l : List Nat) : List Nat := if l.head? = some 45 then l.tail else l
def figB (z : Str) : Bool := decide (restL (cl z) ≠ []) && (restL (cl z)).all fun c => decide (48 ≤ c ∧ c ≤ 57)
section
variable {P : Program} {w : World} {K : PySem.W.Frag} {mg : Str → Option Value} {base : Heap} {cs : List (Addr × Addr)}
end
end TG
namespace TG
open PySem L2 Gx
def fillB (zs : List Str) : List Str := zs.filter fun z => decide (cl z ≠ [])
def rightB (zs : List Str) : Bool := decide (fillB zs ≠ []) && (fillB zs).all figB
section
variable {P : Program} {w : World} {K : PySem.W.Frag} {mg : Str → Option Value} {base : Heap} {cs : List (Addr × Addr)}
end
end TG
namespace TG
open PySem L2 Gx
def clB (rows : List (List Str)) (c i : Nat) : Bool := match rows[i]? with
  | some r => decide (c + 1 < r.length)
  | none => false
def hiB (rows : List (List Str)) (c i : Nat) : Nat := i + ((rows.drop i).takeWhile fun r => decide (c + 1 < r.length)).length
/-- pairs of numbers at ts -/
structure PairsAt (H : Hp) (ts : List Addr) (ps : List (Nat × Nat)) : Prop where
  len : ts.length = ps.length
  at_ : ∀ (i : Nat) (t : Addr) (p : Nat × Nat), ts[i]? = some t → ps[i]? = some p → H t = some (.tup [.int (p.1 : Nat), .int (p.2 : Nat)])
theorem PairsAt.keep {H H' : Hp} {ts : List Addr} {ps : List (Nat × Nat)} (h : PairsAt H ts ps) (k : ∀ b xs, H b = some (.tup xs) → H' b = some (.tup xs)) : PairsAt H' ts ps := ⟨h.len, fun i t p h1 h2 => k _ _ (h.at_ i t p h1 h2)⟩
section
variable {P : Program} {w : World} {K : PySem.W.Frag} {mg : Str → Option Value} {base : Heap} {cs : List (Addr × Addr)}
end
end TG
namespace TG
open PySem L2 Gx
abbrev nilS : Str := ⟨#[]⟩
def cellsB (rows : List (List Str)) (c b e : Nat) : List Str := ((rows.drop b).take (e - b)).map fun r => r.getD c nilS
def longB : List Str → Nat
  | [] => 0
  | z :: zs => max z.length (longB zs)
def widthB (zs : List Str) (gap least : Int) : Int := if least > (longB zs : Int) + gap then least else (longB zs : Int) + gap
def holdB (zs : List Str) (b : Nat) (gap least : Int) : List Int := if least < (longB zs : Int) + gap then ((List.range zs.length).filter fun i => decide ((zs.getD i nilS).length = longB zs)).map fun i => ((b + i : Nat) : Int) else []
section
variable {P : Program} {w : World} {K : PySem.W.Frag} {mg : Str → Option Value} {base : Heap} {cs : List (Addr × Addr)}
/-- the told tuple at t, its holders at h -/
def DescAt (H : Hp) (t h : Addr) (c b e : Nat) (zs : List Str) (gap least : Int) : Prop :=
  H t = some (.tup [.int (c : Nat), .int (b : Nat), .int (e : Nat), .int (widthB zs gap least), .bl (rightB zs), .ref h]) ∧ H h = some (.lst ((holdB zs b gap least).map V.int))
end
end TG
namespace TG
open PySem L2 Gx
/-- the told tuples at ts, their holders at hs -/
structure DescsAt (H : Hp) (ts hs : List Addr) (es : List (Nat × Nat × Nat)) (rows : List (List Str)) (gap least : Int) : Prop where
  len : ts.length = es.length
  len2 : hs.length = es.length
  at_ : ∀ (i : Nat) (t h : Addr) (q : Nat × Nat × Nat), ts[i]? = some t → hs[i]? = some h → es[i]? = some q → DescAt H t h q.1 q.2.1 q.2.2 (cellsB rows q.1 q.2.1 q.2.2) gap least
theorem DescsAt.keep {H H' : Hp} {ts hs : List Addr} {es : List (Nat × Nat × Nat)} {rows : List (List Str)} {gap least : Int} (x : DescsAt H ts hs es rows gap least) (k : ∀ b o, H b = some o → (b ∈ ts ∨ b ∈ hs) → (∀ ps, o ≠ .tbl ps) → H' b = some o) : DescsAt H' ts hs es rows gap least :=
  ⟨x.len, x.len2, fun i t h q h1 h2 h3 => ⟨k _ _ (x.at_ i t h q h1 h2 h3).1 (.inl (List.mem_of_getElem? h1)) (fun ps z => by cases z), k _ _ (x.at_ i t h q h1 h2 h3).2 (.inr (List.mem_of_getElem? h2)) (fun ps z => by cases z)⟩⟩
theorem StyleAt.ex {K : PySem.W.Frag} {cs : List (Addr × Addr)} {H H' : Hp} {a : Addr} {gap least : Int} (p : StyleAt K H a gap least) (e : Ex cs H H') : StyleAt K H' a gap least := ⟨e.sqT p.tup, p.g0, p.g1, p.l0, p.l1⟩
section
variable {P : Program} {w : World} {K : PySem.W.Frag} {mg : Str → Option Value} {base : Heap} {cs : List (Addr × Addr)}
end
end TG
namespace TG
open PySem L2 Gx
theorem cl_app (x y : Str) : cl (x ++ y) = cl x ++ cl y := TL.tl_append x y
theorem joinL_nil : ∀ l : List (List Nat), TL.joinL [] l = l.flatten
  | [] => rfl
  | [p] => by simp [TL.joinL]
  | p :: q :: r => by
    show p ++ ([] ++ TL.joinL [] (q :: r)) = _
    rw [joinL_nil (q :: r)]
    rfl
theorem cl_join (ys : List Str) : cl (Txt.join "" ys) = (ys.map cl).flatten := by
  have e : ("" : Str) = SX.S [] := by decide +kernel
  have e2 : ys = (ys.map cl).map SX.S := by
    rw [List.map_map]
    conv => lhs; rw [← List.map_id ys]
    exact List.map_congr_left fun y _ => (SX.S_tl y).symm
  rw [e]
  conv => lhs; rw [e2]
  rw [SX.join_S, joinL_nil]
theorem num_ok {n : Int} (h0 : 0 ≤ n) (h1 : n < 10 ^ 9) : (Str.ofString (toString n)).length ≤ 9 ∧ ∀ c ∈ cl (Str.ofString (toString n)), 48 ≤ c ∧ c ≤ 57 := by
  refine ⟨PyProof.Rows.toString_length_le h0 (by decide) h1, fun c hc => ?_⟩
  obtain ⟨m, rfl⟩ := Int.eq_ofNat_of_zero_le h0
  have hc' : c ∈ (Str.ofString (toString ((m : Nat) : Int))).cps.toList := hc
  rw [PySem.W.KIN.signs_num] at hc'
  obtain ⟨ch, hch, e⟩ := List.mem_map.mp hc'
  have r := PyProof.Rows.digit_range (Nat.isDigit_of_mem_toDigits (by decide) (by decide) hch)
  rw [← e]
  exact r
theorem sg_of {z : Str} (h : (z.cps.toList.all fun c => decide (SgOk c)) = true) : ∀ c ∈ cl z, SgOk c := fun c hc => of_decide_eq_true (List.all_eq_true.mp h c hc)
end TG
namespace TG
open PySem L2 Gx
abbrev everyS : Str := " !\"#$&'()*+,-./0123456789:;<=>?@ABCDEFGHIJKLMNOPQRSTUVWXYZ[\\]^_`abcdefghijklmnopqrstuvwxyz{|}~"
theorem every_ok : ∀ c ∈ cl everyS, SgOk c := sg_of (by decide +kernel)
theorem abc_len : (cl "abcdefghij").length = 10 := by decide +kernel
theorem emp_len : (Str.ofString "").length = 0 := by decide +kernel
theorem every_len : (cl everyS).length = 94 := by decide +kernel
theorem cells_ok {l : List Str} (h : (l.all fun z => decide (z.length ≤ 10) && z.cps.toList.all fun c => decide (SgOk c)) = true) : ∀ z ∈ l, CellOk z := fun z hz => by
  have q := Bool.and_eq_true_iff.mp (List.all_eq_true.mp h z hz)
  exact ⟨of_decide_eq_true q.1, sg_of q.2⟩
/-- one of a written list -/
theorem pick {α : Type} {xs : List α} {i : Int} (h0 : 0 ≤ i) (h1 : i < xs.length) : ∃ x, x ∈ xs ∧ atI xs i = some x := by
  obtain ⟨n, rfl⟩ := Int.eq_ofNat_of_zero_le h0
  have hn : n < xs.length := by have : ((n : Nat) : Int) < xs.length := h1; omega
  exact ⟨xs[n], List.getElem_mem hn, atI_nat (List.getElem?_eq_getElem hn)⟩
theorem iteB {c A B : Prop} [Decidable c] (h1 : A) (h2 : B) : if c then A else B := ite2 (fun _ => h1) fun _ => h2
theorem len_cl (z : Str) : z.length = (cl z).length := by simp [Str.length, cl]
theorem box_new {H : Hp} {b l p : Addr} {o : HO} (x : BoxAt H b l) (n : H p = none) : BoxAt (upd H p o) b l := by
  obtain ⟨ns, st, h1, h2, h3⟩ := x
  exact ⟨ns, st, by rw [upd_ne (ne_of_none h1 n)]; exact h1, by rw [upd_ne (ne_of_none h2 n)]; exact h2, h3⟩
theorem new_ne {H : Hp} {b l p : Addr} (x : BoxAt H b l) (n : H p = none) : p ≠ b ∧ p ≠ l := by
  obtain ⟨ns, st, h1, h2, h3⟩ := x
  exact ⟨(ne_of_none h1 n).symm, (ne_of_none h2 n).symm⟩
theorem box_upd {H : Hp} {b l p : Addr} {o : HO} (x : BoxAt H b l) (h1 : p ≠ b) (h2 : p ≠ l) : BoxAt (upd H p o) b l := by
  obtain ⟨ns, st, g1, g2, g3⟩ := x
  exact ⟨ns, st, by rw [upd_ne h1.symm]; exact g1, by rw [upd_ne h2.symm]; exact g2, g3⟩
theorem kb_new {H : Hp} {b l p : Addr} {o : HO} (n : H p = none) : KB b l H (upd H p o) := fun c u e _ _ => by rw [upd_ne (ne_of_none e n)]; exact e
theorem kb_upd {H H' : Hp} {b l p : Addr} {o : HO} (x : KB b l H H') (n : H p = none) : KB b l H (upd H' p o) := fun c u e h1 h2 => by rw [upd_ne (ne_of_none e n)]; exact x c u e h1 h2
theorem atI_map {α β : Type} {f : α → β} {xs : List α} {i : Int} {x : α} (h : atI xs i = some x) : atI (xs.map f) i = some (f x) := by
  unfold atI at h ⊢
  rw [List.length_map]
  cases e : ixN xs.length i with
  | none => rw [e] at h; cases h
  | some j =>
    rw [e] at h
    have h' : xs[j]? = some x := h
    show (xs.map f)[j]? = some (f x)
    rw [List.getElem?_map, h']
    rfl
/-- a list of single signs at D -/
structure OnesAt (b l : Addr) (H : Hp) (D : Addr) (i : Nat) (H' : Hp) : Prop where
  box : BoxAt H' b l
  keep : KB b l H H'
  nD : H D = none
  db : D ≠ b
  dl : D ≠ l
  ones : ∃ cs : List Nat, cs.length = i ∧ (∀ c ∈ cs, SgOk c) ∧ H' D = some (.lst (sV (cs.map fun c => ⟨#[c]⟩)))
theorem OnesAt.start {b l : Addr} {H H1 : Hp} {D : Addr} (hB : BoxAt H1 b l) (x : KB b l H H1) (n : H1 D = none) (nb : BoxAt H b l) : OnesAt b l H D 0 (upd H1 D (.lst [])) := by
  obtain ⟨d1, d2⟩ := new_ne hB n
  have nD : H D = none := by
    cases e : H D with
    | none => rfl
    | some o => rw [x D o e d1 d2] at n; cases n
  exact ⟨box_new hB n, kb_upd x nD, nD, d1, d2, [], rfl, fun c h => by simp at h, upd_same⟩
theorem OnesAt.more {b l : Addr} {H H1 H2 : Hp} {D : Addr} {i c : Nat} (o : OnesAt b l H D i H1) (hc : SgOk c) (hB : BoxAt H2 b l) (x : KB b l H1 H2) :
    ∃ acc, H2 D = some (.lst acc) ∧ acc.length = i ∧ OnesAt b l H D (i + 1) (upd H2 D (.lst (acc ++ [.str ⟨#[c]⟩]))) := by
  obtain ⟨cs, h1, h2, h3⟩ := o.ones
  refine ⟨_, x D _ h3 o.db o.dl, by rw [List.length_map, List.length_map, h1], box_upd hB o.db o.dl, kb_upd (o.keep.trans x) o.nD, o.nD, o.db, o.dl, cs ++ [c], by rw [List.length_append, h1]; rfl, fun d hd => ?_, ?_⟩
  · rcases List.mem_append.mp hd with h | h
    · exact h2 d h
    · rw [List.mem_singleton.mp h]; exact hc
  · rw [upd_same]
    simp [sV]
theorem OnesAt.done {b l : Addr} {H H1 : Hp} {D : Addr} {i : Nat} (o : OnesAt b l H D i H1) : ∃ ys : List Str, H1 D = some (.lst (ys.map V.str)) ∧ ys.length = i ∧ (ys.map fun y => y.length).sum = i ∧ (i ≤ 10 → CellOk (Txt.join "" ys)) := by
  obtain ⟨cs, h1, h2, h3⟩ := o.ones
  refine ⟨_, h3, by rw [List.length_map, h1], ?_, fun hi => ?_⟩
  · rw [← h1]
    clear h1 h2 h3
    induction cs with
    | nil => rfl
    | cons c cs ih =>
      rw [List.map_cons, List.map_cons, List.sum_cons, ih, List.length_cons]
      show 1 + cs.length = cs.length + 1
      omega
  · have e : cl (Txt.join "" (cs.map fun c => (⟨#[c]⟩ : Str))) = cs := by
      rw [cl_join, List.map_map]
      clear h1 h2 h3
      induction cs with
      | nil => rfl
      | cons c cs ih =>
        rw [List.map_cons, List.flatten_cons, ih]
        rfl
    exact ⟨by rw [len_cl, e, h1]; exact hi, fun c hc => h2 c (by have hc : c ∈ cl _ := hc; rw [e] at hc; exact hc)⟩
abbrev oddL : List Str := ["-", "--1", "1-", "0x", " 1", "1 ", "-0", "007", " ", "   ", "1234567x", "12345678-", "-0000000 1"]
theorem odd_ok : ∀ z ∈ oddL, CellOk z := cells_ok (by decide +kernel)
section
variable {P : Program} {w : World} {K : PySem.W.Frag} {mg : Str → Option Value} {base : Heap} {cs : List (Addr × Addr)}
def spSign : Sp := fun vs H Q _ => ∃ (b l : Addr), vs = [.ref b] ∧ BoxAt H b l ∧ ∀ (c : Nat) (H' : Hp), SgOk c → BoxAt H' b l → KB b l H H' → Q (.str ⟨#[c]⟩) H'
theorem sc_sign : FnScope ["_law_box", "_law_every"] ["_law_box"] (defScope s_sign) := ⟨rfl, rfl, rfl, by decide +kernel, rfl, by decide +kernel, by decide +kernel⟩
theorem ok_sign {f g : Addr} {fd fdg : FuncData} (F : Fun K "_law_sign" "_law_sign" s_sign f fd)
    (G : FnOk P w K mg base CX0 1 g fdg ["_law_box", "_law_many"] spTake) (kp : PySem.W.keepIn K (.ref g) = true) (bd : Binds K fdg ["_law_box", "_law_many"] []) (mgg : mg "_law_take" = some (.ref g)) : FnOk P w K mg base CX0 2 f fd ["_law_box"] spSign := by
  refine F.ok sc_sign (fun vs H Q E h => ?_) (fun cdv A outer s H vs Q E hr h => ?_)
  · obtain ⟨b, l, rfl, _⟩ := h
    rfl
  · obtain ⟨b, l, rfl, hB, k⟩ := h
    have nd := sc_sign.nd
    refine ⟨_, pss_cons (ps_set (i := 1) nd rfl (.inl rfl) pe_str) (pss_one (ps_ret (pe_ix ix_str (pv 1) (pe_call G hr (by rfl) mgg kp bd .nil pass0 (pa_cons (pv 0) (pa_cons pe_int pa_nil))) (fun _ _ => rfl)))), ?_⟩
    refine ⟨_, rfl, _, rfl, b, l, 94, rfl, hB, by decide, by decide, fun r H1 r0 r1 hB1 x1 => ?_⟩
    obtain ⟨c, hc, e⟩ := pick (xs := cl everyS) r0 (by rw [every_len]; exact r1)
    exact ⟨everyS, r, c, rfl, rfl, line10 (by decide +kernel), e, k c H1 (every_ok c hc) hB1 x1⟩
def spCell : Sp := fun vs H Q _ => ∃ (b l : Addr) (sort : Int), vs = [.ref b, .int sort] ∧ BoxAt H b l ∧ ∀ (z : Str) (H' : Hp), CellOk z → BoxAt H' b l → KB b l H H' → Q (.str z) H'
theorem sc_cell : FnScope ["_law_box", "_law_sort", "_law_way", "_law_odd", "_law_many", "_law_k"] ["_law_box", "_law_sort"] (defScope s_cell) := ⟨rfl, rfl, rfl, by decide +kernel, rfl, by decide +kernel, by decide +kernel⟩
abbrev nmCell : List Str := ["_law_box", "_law_sort", "_law_way", "_law_odd", "_law_many", "_law_k"]
theorem ok_cell {f g g2 : Addr} {fd fdg fd2 : FuncData} (T : Txt mg) (F : Fun K "_law_cell" "_law_cell" s_cell f fd)
    (G : FnOk P w K mg base CX0 1 g fdg ["_law_box", "_law_many"] spTake) (kp : PySem.W.keepIn K (.ref g) = true) (bd : Binds K fdg ["_law_box", "_law_many"] []) (mgg : mg "_law_take" = some (.ref g))
    (G2 : FnOk P w K mg base CX0 2 g2 fd2 ["_law_box"] spSign) (kp2 : PySem.W.keepIn K (.ref g2) = true) (bd2 : Binds K fd2 ["_law_box"] []) (mg2 : mg "_law_sign" = some (.ref g2)) : FnOk P w K mg base CX0 3 f fd ["_law_box", "_law_sort"] spCell := by
  refine F.ok sc_cell (fun vs H Q E h => ?_) (fun cdv A outer s H vs Q E hr h => ?_)
  · obtain ⟨b, l, sort, rfl, _⟩ := h
    rfl
  · obtain ⟨b, l, sort, rfl, hB, k⟩ := h
    have nd := sc_cell.nd
    have hr1 : Room 1 _ := hr.mono (by decide)
    refine ⟨_, pss_cons (ps_set (i := 2) nd rfl (.inl rfl) (pe_call G hr1 (by rfl) mgg kp bd .nil pass0 (pa_cons (pv 0) (pa_cons pe_int pa_nil))))
      (pss_cons (ps_if (pt_cmpR op_eq (pv 2) pe_int (nomark _)) (pss_one (ps_ret pe_str)) pss_nil)
      (pss_cons (ps_if (PW.pt (pw_or (pt_cmpR op_eq (pv 2) pe_int (nomark _)) (pw_or1 (PW.pt (pw_and (pt_cmpR op_eq (pv 1) pe_int (nomark _)) (pw_and1 (pt_cmpR op_lt (pv 2) pe_int (nomark _)))))))) (pss_one (ps_ret (pe_op op_add_str (pe_ix ix_list (pe_lst (pa_cons pe_str (pa_cons pe_str pa_nil))) (pe_op op_fdivN (pe_call G hr1 (by rfl) mgg kp bd .nil pass0 (pa_cons (pv 0) (pa_cons pe_int pa_nil))) pe_int) (fun _ _ => rfl)) (pe_callTy call_str_int (by rfl) T.str (by decide +kernel) (pa_cons (pe_call G hr1 (by rfl) mgg kp bd .nil pass0 (pa_cons (pv 0) (pa_cons (pe_ix ix_list (pe_lst (pa_cons pe_int (pa_cons pe_int (pa_cons (pe_op op_pow pe_int pe_int) pa_nil)))) (pe_call G hr1 (by rfl) mgg kp bd .nil pass0 (pa_cons (pv 0) (pa_cons pe_int pa_nil))) (fun _ _ => rfl)) pa_nil))) pa_nil))))) pss_nil)
      (pss_cons (ps_if (pt_cmpR op_eq (pv 2) pe_int (nomark _)) (pss_cons (ps_set (i := 3) nd rfl (.inl rfl) (pe_lst (pa_cons pe_str (pa_cons pe_str (pa_cons pe_str (pa_cons pe_str (pa_cons pe_str (pa_cons pe_str (pa_cons pe_str (pa_cons pe_str (pa_cons pe_str (pa_cons pe_str (pa_cons pe_str (pa_cons pe_str (pa_cons pe_str pa_nil))))))))))))))) (pss_one (ps_ret (pe_ix ix_list (pv 3) (pe_call G hr1 (by rfl) mgg kp bd .nil pass0 (pa_cons (pv 0) (pa_cons pe_int pa_nil))) (fun _ _ => rfl))))) pss_nil)
      (pss_cons (ps_set (i := 4) nd rfl (.inl rfl) (pe_op op_add pe_int (pe_call G hr1 (by rfl) mgg kp bd .nil pass0 (pa_cons (pv 0) (pa_cons (pe_ix ix_list (pe_lst (pa_cons pe_int (pa_cons pe_int pa_nil))) (pe_call G hr1 (by rfl) mgg kp bd .nil pass0 (pa_cons (pv 0) (pa_cons pe_int pa_nil))) (fun _ _ => rfl)) pa_nil)))))
      (pss_cons (ps_if (pt_cmpR op_lt (pv 2) pe_int (nomark _)) (pss_one (ps_ret (pe_join pe_str (pe_lc (own := [("_law_k", 5)]) (g := gName 5) (tt := tYes) rfl nd (pi_range1 (by rfl) T.range (pa_cons (pv 4) pa_nil)) (blkOk_by (own := [("_law_k", 5)]) (N := nmCell) (sc := defScope s_cell) (by decide +kernel)) (fun _ _ _ _ _ => pg_name (i := 5) nd rfl (Or.inl rfl)) (fun _ _ _ _ _ => pts_nil) (fun s1 H1 C1 cl1 fp1 => pe_ix ix_str pe_str (pe_call G hr1 (by rfl) mgg kp bd .nil pass0 (pa_cons (pv 0) (pa_cons pe_int pa_nil))) (fun _ _ => rfl)))))) pss_nil)
      (pss_one (ps_ret (pe_join pe_str (pe_lc (own := [("_law_k", 5)]) (g := gName 5) (tt := tYes) rfl nd (pi_range1 (by rfl) T.range (pa_cons (pv 4) pa_nil)) (blkOk_by (own := [("_law_k", 5)]) (N := nmCell) (sc := defScope s_cell) (by decide +kernel)) (fun _ _ _ _ _ => pg_name (i := 5) nd rfl (Or.inl rfl)) (fun _ _ _ _ _ => pts_nil) (fun s1 H1 C1 cl1 fp1 => pe_call G2 hr (by rfl) mg2 kp2 bd2 .nil pass0 (pa_cons (pv 0) pa_nil))))))))))), ?_⟩
    have szl : (1000 : Nat) < sizeLine := by decide
    refine ⟨_, rfl, b, l, 9, rfl, hB, by decide, by decide, fun way H1 w0 w1 hB1 x1 => ⟨_, rfl, rfl, _, rfl, iteB ?_ ?_⟩⟩
    · exact k _ H1 ⟨by decide +kernel, sg_of (by decide +kernel)⟩ hB1 x1
    refine ⟨_, rfl, rfl, _, rfl, iteB (iteT ?body) ⟨_, rfl, rfl, _, rfl, iteB ⟨_, rfl, _, _, rfl, rfl, _, rfl, iteB ?body ?rest⟩ (iteF ?rest)⟩⟩
    case body =>
      refine ⟨line10 (by decide), fun p np => ⟨_, rfl, b, l, 3, rfl, box_new hB1 np, by decide, by decide, fun r H2 r0 r1 hB2 x2 => ⟨r, 2, rfl, rfl, ⟨by decide, by decide⟩, ?_⟩⟩⟩
      have y2 := (x1.trans (kb_new np)).trans x2
      have e2 : r.fdiv 2 = r / 2 := Int.fdiv_eq_ediv_of_nonneg r (by decide)
      obtain ⟨v, hv, ev⟩ := pick (xs := [(⟨#[]⟩ : Str), ⟨#[45]⟩]) (i := r.fdiv 2) (by omega) (by show r.fdiv 2 < 2; omega)
      obtain ⟨nb, nl⟩ := new_ne hB1 np
      have l1 : ([("" : Str), "-"] : List Str) = [⟨#[]⟩, ⟨#[45]⟩] := by decide +kernel
      have hp2 : H2 p = some (.lst (sV [("" : Str), "-"])) := x2 p _ upd_same nb nl
      refine ⟨p, _, _, .str v, rfl, rfl, SqL.of hp2, by rw [l1]; exact atI_map ev, ?_⟩
      refine ⟨_, rfl, 10, 9, rfl, rfl, ⟨by decide, by decide, by decide⟩, line10 (by decide), fun p2 np2 => ⟨_, rfl, b, l, 3, rfl, box_new hB2 np2, by decide, by decide, fun r2 H4 s0 s1 hB4 x4 => ?_⟩⟩
      obtain ⟨nb2, nl2⟩ := new_ne hB2 np2
      have y4 := (y2.trans (kb_new np2)).trans x4
      have hp4 := x4 p2 _ upd_same nb2 nl2
      obtain ⟨m, hm, em⟩ := pick (xs := [(10 : Int), 1000, 1000000000]) (i := r2) s0 s1
      have hm2 : 0 < m ∧ m ≤ 1000000000 := by
        simp only [List.mem_cons, List.not_mem_nil, or_false] at hm
        omega
      refine ⟨p2, _, _, .int m, rfl, rfl, SqL.of hp4, atI_map (f := V.int) em, b, l, m, rfl, hB4, hm2.1, by omega, fun n H5 n0 n1 hB5 x5 => ⟨n, rfl, ?_, v, _, rfl, rfl, ?_, ?_⟩⟩
      · by_cases hz : n.natAbs = 0
        · rw [hz]; decide
        · refine Nat.lt_of_lt_of_le ((Nat.log2_lt hz).mpr (show n.natAbs < 2 ^ 30 by omega)) (by decide)
      · have h9 := (num_ok n0 (by omega)).1
        have hv1 : v.length ≤ 1 := by
          simp only [List.mem_cons, List.not_mem_nil, or_false] at hv
          rcases hv with rfl | rfl <;> decide
        omega
      · obtain ⟨h9, hd9⟩ := num_ok n0 (by omega)
        have hv1 : v.length ≤ 1 ∧ ∀ c ∈ cl v, SgOk c := by
          simp only [List.mem_cons, List.not_mem_nil, or_false] at hv
          rcases hv with rfl | rfl <;> exact ⟨by decide, sg_of (by decide)⟩
        refine k _ H5 ⟨?_, fun c hc => ?_⟩ hB5 (y4.trans x5)
        · rw [len_cl, cl_app, List.length_append, ← len_cl, ← len_cl]; omega
        · have hc : c ∈ cl (v ++ _) := hc
          rw [cl_app] at hc
          rcases List.mem_append.mp hc with h | h
          · exact hv1.2 c h
          · have := hd9 c h
            unfold SgOk
            omega
    case rest =>
    refine ⟨_, rfl, rfl, _, rfl, iteB ?_ ?_⟩
    · refine ⟨line10 (by decide), fun p np => ⟨_, rfl, _, rfl, b, l, 13, rfl, box_new hB1 np, by decide, by decide, fun r H2 r0 r1 hB2 x2 => ?_⟩⟩
      obtain ⟨nb, nl⟩ := new_ne hB1 np
      have hp2 : H2 p = some (.lst (sV oddL)) := x2 p _ upd_same nb nl
      obtain ⟨v, hv, ev⟩ := pick (xs := oddL) (i := r) r0 r1
      exact ⟨p, _, _, .str v, rfl, rfl, SqL.of hp2, atI_map ev, k v H2 (odd_ok v hv) hB2 ((x1.trans (kb_new np)).trans x2)⟩
    refine ⟨_, rfl, line10 (by decide), fun p np => ⟨_, rfl, b, l, 2, rfl, box_new hB1 np, by decide, by decide, fun r H2 r0 r1 hB2 x2 => ?_⟩⟩
    obtain ⟨nb, nl⟩ := new_ne hB1 np
    have hp2 := x2 p _ upd_same nb nl
    have y2 := (x1.trans (kb_new np)).trans x2
    obtain ⟨m, hm, em⟩ := pick (xs := [(3 : Int), 10]) (i := r) r0 r1
    have hm2 : 0 < m ∧ m ≤ 10 := by
      simp only [List.mem_cons, List.not_mem_nil, or_false] at hm
      omega
    refine ⟨p, _, _, .int m, rfl, rfl, SqL.of hp2, atI_map (f := V.int) em, b, l, m, rfl, hB2, hm2.1, by omega, fun n H3 n0 n1 hB3 x3 => ⟨1, n, rfl, rfl, ?_⟩⟩
    have y3 := y2.trans x3
    refine ⟨_, rfl, _, _, rfl, rfl, _, rfl, iteB ?_ ?_⟩
    · refine ⟨⟨_, rfl⟩, _, rfl, 1 + n, rfl, by omega, by omega, fun D nD => lc_range (n := (1 + n).toNat) (fun i H' => OnesAt b l H D i H') ?_ ?_ ?_⟩
      · exact OnesAt.start hB3 y3 nD hB
      · rintro i H4 hi o
        refine ⟨rfl, _, rfl, b, l, 10, rfl, o.box, by decide, by decide, fun r4 H5 a0 a1 hB5 x5 => ?_⟩
        obtain ⟨c, hc, ec⟩ := pick (xs := cl "abcdefghij") (i := r4) a0 (by rw [abc_len]; exact a1)
        obtain ⟨acc, hacc, hl, o2⟩ := o.more (c := c) (sg_of (z := "abcdefghij") (by decide +kernel) c hc) hB5 x5
        exact ⟨_, r4, c, rfl, rfl, line10 (by decide +kernel), ec, acc, hacc, by omega, o2⟩
      · rintro H4 o
        obtain ⟨ys, hD, h1, h2, h3⟩ := o.done
        exact ⟨_, D, ys, rfl, rfl, .inl (SqL.of hD), by rw [h2, emp_len]; omega, k _ H4 (h3 (by omega)) o.box o.keep⟩
    · refine ⟨⟨_, rfl⟩, _, rfl, 1 + n, rfl, by omega, by omega, fun D nD => lc_range (n := (1 + n).toNat) (fun i H' => OnesAt b l H D i H') ?_ ?_ ?_⟩
      · exact OnesAt.start hB3 y3 nD hB
      · rintro i H4 hi o
        refine ⟨rfl, _, rfl, b, l, rfl, o.box, fun c H5 hc hB5 x5 => ?_⟩
        obtain ⟨acc, hacc, hl, o2⟩ := o.more (c := c) hc hB5 x5
        exact ⟨acc, hacc, by omega, o2⟩
      · rintro H4 o
        obtain ⟨ys, hD, h1, h2, h3⟩ := o.done
        exact ⟨_, D, ys, rfl, rfl, .inl (SqL.of hD), by rw [h2, emp_len]; omega, k _ H4 (h3 (by omega)) o.box o.keep⟩
end
end TG
namespace TG
open PySem L2 Gx
theorem new_old {b l p : Addr} {H H1 : Hp} (x : KB b l H H1) (hB : BoxAt H1 b l) (n : H1 p = none) : H p = none := by
  obtain ⟨d1, d2⟩ := new_ne hB n
  cases e : H p with
  | none => rfl
  | some o => rw [x p o e d1 d2] at n; cases n
/-- a list of cells at D -/
structure StrsAt (b l : Addr) (H : Hp) (D : Addr) (i : Nat) (H' : Hp) : Prop where
  box : BoxAt H' b l
  keep : KB b l H H'
  nD : H D = none
  db : D ≠ b
  dl : D ≠ l
  zsat : ∃ zs : List Str, zs.length = i ∧ (∀ z ∈ zs, CellOk z) ∧ H' D = some (.lst (sV zs))
theorem StrsAt.start {b l : Addr} {H H1 : Hp} {D : Addr} (hB : BoxAt H1 b l) (x : KB b l H H1) (n : H1 D = none) : StrsAt b l H D 0 (upd H1 D (.lst [])) := by
  obtain ⟨d1, d2⟩ := new_ne hB n
  have nD := new_old x hB n
  exact ⟨box_new hB n, kb_upd x nD, nD, d1, d2, [], rfl, fun c h => by simp at h, upd_same⟩
theorem StrsAt.more {b l : Addr} {H H1 H2 : Hp} {D : Addr} {i : Nat} {z : Str} (o : StrsAt b l H D i H1) (hc : CellOk z) (hB : BoxAt H2 b l) (x : KB b l H1 H2) :
    ∃ acc, H2 D = some (.lst acc) ∧ acc.length = i ∧ StrsAt b l H D (i + 1) (upd H2 D (.lst (acc ++ [.str z]))) := by
  obtain ⟨zs, h1, h2, h3⟩ := o.zsat
  refine ⟨_, x D _ h3 o.db o.dl, by rw [List.length_map, h1], box_upd hB o.db o.dl, kb_upd (o.keep.trans x) o.nD, o.nD, o.db, o.dl, zs ++ [z], by rw [List.length_append, h1]; rfl, fun d hd => ?_, ?_⟩
  · rcases List.mem_append.mp hd with h | h
    · exact h2 d h
    · rw [List.mem_singleton.mp h]; exact hc
  · rw [upd_same]
    simp [sV]
/-- a list of numbers at D, below m -/
structure IntsAt (b l : Addr) (H : Hp) (D : Addr) (i : Nat) (H' : Hp) : Prop where
  box : BoxAt H' b l
  keep : KB b l H H'
  nD : H D = none
  db : D ≠ b
  dl : D ≠ l
  isat : ∃ zs : List Int, zs.length = i ∧ H' D = some (.lst (zs.map V.int))
theorem IntsAt.start {b l : Addr} {H H1 : Hp} {D : Addr} (hB : BoxAt H1 b l) (x : KB b l H H1) (n : H1 D = none) : IntsAt b l H D 0 (upd H1 D (.lst [])) := by
  obtain ⟨d1, d2⟩ := new_ne hB n
  have nD := new_old x hB n
  exact ⟨box_new hB n, kb_upd x nD, nD, d1, d2, [], rfl, upd_same⟩
theorem IntsAt.more {b l : Addr} {H H1 H2 : Hp} {D : Addr} {i : Nat} {z : Int} (o : IntsAt b l H D i H1) (hB : BoxAt H2 b l) (x : KB b l H1 H2) :
    ∃ acc, H2 D = some (.lst acc) ∧ acc.length = i ∧ IntsAt b l H D (i + 1) (upd H2 D (.lst (acc ++ [.int z]))) := by
  obtain ⟨zs, h1, h3⟩ := o.isat
  refine ⟨_, x D _ h3 o.db o.dl, by rw [List.length_map, h1], box_upd hB o.db o.dl, kb_upd (o.keep.trans x) o.nD, o.nD, o.db, o.dl, zs ++ [z], by rw [List.length_append, h1]; rfl, ?_⟩
  rw [upd_same]
  simp
theorem ixm1 {n : Nat} : ixN (n + 1) (-1) = some n := by
  unfold ixN
  rw [if_neg (by decide), if_pos (by omega)]
  congr 1
  omega
theorem atm1 {α : Type} {xs : List α} {n : Nat} {v : α} (hl : xs.length = n + 1) (h : xs[n]? = some v) : atI xs (-1) = some v := by
  unfold atI
  rw [hl, ixm1]
  exact h
/-- rows' tuples -/
def RowsP (H : Hp) (as : List Addr) : Prop := ∀ p ∈ as, ∃ r, H p = some (.tup (sV r)) ∧ RowOk r
theorem RowsP.keep {H H' : Hp} {as : List Addr} (x : RowsP H as) (k : ∀ p xs, H p = some (.tup xs) → H' p = some (.tup xs)) : RowsP H' as := fun p hp => by
  obtain ⟨r, h1, h2⟩ := x p hp
  exact ⟨r, k _ _ h1, h2⟩
theorem RowsP.page {H : Hp} : ∀ {as : List Addr}, RowsP H as → ∃ rows : List (List Str), as.length = rows.length ∧ (∀ (i : Nat) (p : Addr) (r : List Str), as[i]? = some p → rows[i]? = some r → H p = some (.tup (sV r))) ∧ ∀ r ∈ rows, RowOk r
  | [], _ => ⟨[], rfl, fun i p r h => by simp at h, fun r h => by simp at h⟩
  | a :: as, x => by
    obtain ⟨rows, h1, h2, h3⟩ := RowsP.page (as := as) fun p hp => x p (List.mem_cons_of_mem _ hp)
    obtain ⟨r, g1, g2⟩ := x a List.mem_cons_self
    refine ⟨r :: rows, by rw [List.length_cons, List.length_cons, h1], fun i p q e1 e2 => ?_, fun q hq => ?_⟩
    · cases i with
      | zero => cases e1; cases e2; exact g1
      | succ i => exact h2 i p q (by simpa using e1) (by simpa using e2)
    · rcases List.mem_cons.mp hq with z | z
      · rw [z]; exact g2
      · exact h3 q z
theorem kb_tup {b l : Addr} {H H' : Hp} (x : KB b l H H') (hB : BoxAt H b l) : ∀ p xs, H p = some (.tup xs) → H' p = some (.tup xs) := fun p xs h => by
  obtain ⟨ns, st, h1, h2, _⟩ := hB
  exact x p _ h (ne_of h h1 fun z => by cases z) (ne_of h h2 fun z => by cases z)
section
variable {P : Program} {w : World} {K : PySem.W.Frag} {mg : Str → Option Value} {base : Heap} {cs : List (Addr × Addr)}
def spRowD : Sp := fun vs H Q _ => ∃ (b l sr : Addr) (ss : List Int) (m : Int), vs = [.ref b, .ref sr, .int m] ∧ BoxAt H b l ∧ H sr = some (.lst (ss.map V.int)) ∧ ss.length = 6 ∧ sr ≠ b ∧ sr ≠ l ∧ 1 ≤ m ∧ m ≤ 6 ∧
  ∀ (p : Addr) (r : List Str) (H' : Hp), BoxAt H' b l → KB b l H H' → H p = none → H' p = some (.tup (sV r)) → RowOk r → Q (.ref p) H'
abbrev nmRow : List Str := ["_law_box", "_law_sorts", "_law_many", "_law_k"]
theorem sc_lrow : FnScope nmRow ["_law_box", "_law_sorts", "_law_many"] (defScope s_row) := ⟨rfl, rfl, rfl, by decide +kernel, rfl, by decide +kernel, by decide +kernel⟩
theorem ok_lrow {f g : Addr} {fd fdg : FuncData} (T : Txt mg) (F : Fun K "_law_row" "_law_row" s_row f fd)
    (G : FnOk P w K mg base CX0 3 g fdg ["_law_box", "_law_sort"] spCell) (kp : PySem.W.keepIn K (.ref g) = true) (bd : Binds K fdg ["_law_box", "_law_sort"] []) (mgg : mg "_law_cell" = some (.ref g)) : FnOk P w K mg base CX0 4 f fd ["_law_box", "_law_sorts", "_law_many"] spRowD := by
  refine F.ok sc_lrow (fun vs H Q E h => ?_) (fun cdv A outer s H vs Q E hr h => ?_)
  · obtain ⟨b, l, sr, ss, m, rfl, _⟩ := h
    rfl
  · obtain ⟨b, l, sr, ss, m, rfl, hB, hs, h6, sb, sl, m1, m6, k⟩ := h
    have nd := sc_lrow.nd
    have szl : (1000 : Nat) < sizeLine := by decide
    refine ⟨_, pss_one (ps_ret (pe_callTy call_tuple_of (by rfl) T.tuple (by decide +kernel) (pa_cons (pe_lc (own := [("_law_k", 3)]) (g := gName 3) (tt := tYes) rfl nd (pi_range1 (by rfl) T.range (pa_cons (pv 2) pa_nil)) (blkOk_by (own := [("_law_k", 3)]) (N := nmRow) (sc := defScope s_row) (by decide +kernel))
          (fun _ _ _ _ _ => pg_name (i := 3) nd rfl (Or.inl rfl)) (fun _ _ _ _ _ => pts_nil) (fun s1 H1 C1 cl1 fp1 => pe_call G hr (by rfl) mgg kp bd .nil pass0 (pa_cons (pv 0) (pa_cons (pe_ix (r := rIxL K) ix_list (pv 1) (pv 3) (fun _ _ => rfl)) pa_nil)))) pa_nil))), ?_⟩
    refine ⟨_, rfl, m, rfl, by omega, by omega, fun D nD => lc_range (n := m.toNat) (fun i H' => StrsAt b l H D i H') (StrsAt.start hB KB.refl nD) ?_ ?_⟩
    · rintro i H1 hi o
      obtain ⟨sv, hsv⟩ := getP (xs := ss) (i := i) (by omega)
      have hs1 := o.keep sr _ hs sb sl
      refine ⟨rfl, _, rfl, _, rfl, _, rfl, sr, _, _, .int sv, rfl, rfl, SqL.of hs1, by rw [Int.zero_add]; exact atI_nat (by rw [List.getElem?_map, hsv]; rfl), b, l, sv, rfl, o.box, fun z H2 hz hB2 x2 => ?_⟩
      obtain ⟨acc, hacc, hl, o2⟩ := o.more hz hB2 x2
      exact ⟨acc, hacc, by omega, o2⟩
    · rintro H1 o
      obtain ⟨zs, h1, h2, h3⟩ := o.zsat
      refine ⟨D, _, rfl, .inl ⟨SqL.of h3, fun p np => k p zs _ (box_new o.box np) (o.keep.trans (kb_new np)) (new_old o.keep o.box np) upd_same ⟨by omega, by omega, h2⟩⟩⟩
abbrev nmPage : List Str := ["_law_box", "_law_most", "_law_sorts", "_law_many", "_law_rows", "_law_turn", "_law_way", "_law_k"]
theorem sc_lpage : FnScope nmPage ["_law_box", "_law_most"] (defScope s_page) := ⟨rfl, rfl, rfl, by decide +kernel, rfl, by decide +kernel, by decide +kernel⟩
end
end TG
namespace TG
open PySem L2 Gx
theorem same_trans {H H1 H2 : Hp} (a : Same H H1) (b : Same H1 H2) : Same H H2 := fun c o h => b c o (a c o h)
theorem same_new {H : Hp} {p : Addr} {o : HO} (n : H p = none) : Same H (upd H p o) := fun c u h => by rw [upd_ne (ne_of_none h n)]; exact h
theorem same_upd {H H' : Hp} {p : Addr} {o : HO} (x : Same H H') (n : H p = none) : Same H (upd H' p o) := fun c u h => by rw [upd_ne (ne_of_none h n)]; exact x c u h
theorem same_sqL {K : PySem.W.Frag} {H H' : Hp} {a : Addr} {xs : List V} (e : Same H H') (h : SqL K H a xs) : SqL K H' a xs := by
  rcases h with (z | ⟨o, z⟩) | z
  · exact .inl (.inl (e _ _ z))
  · exact .inl (.inr ⟨o, e _ _ z⟩)
  · exact .inr z
theorem same_sqT {K : PySem.W.Frag} {H H' : Hp} {a : Addr} {xs : List V} (e : Same H H') (h : SqT K H a xs) : SqT K H' a xs := by
  rcases h with (z | ⟨o, z⟩) | z
  · exact .inl (.inl (e _ _ z))
  · exact .inl (.inr ⟨o, e _ _ z⟩)
  · exact .inr z
theorem PageAt.same {K : PySem.W.Frag} {H H' : Hp} {a : Addr} {as : List Addr} {rows : List (List Str)} (p : PageAt K H a as rows) (e : Same H H') : PageAt K H' a as rows :=
  ⟨same_sqL e p.lst, p.len, fun i q r h1 h2 => same_sqT e (p.row i q r h1 h2)⟩
theorem same_old {H H' : Hp} {p : Addr} (e : Same H H') (n : H' p = none) : H p = none := by
  cases q : H p with
  | none => rfl
  | some o => rw [e _ _ q] at n; cases n
theorem canAll_strs : ∀ {zs : List Str}, (∀ z ∈ zs, ∀ c ∈ cl z, SgOk c) → PyData.canLayAll0 (zs.map PyData.str) = true
  | [], _ => rfl
  | z :: zs, h => by
    rw [List.map_cons]
    simp only [PyData.canLayAll0, PyData.canLay0, Bool.and_eq_true]
    refine ⟨?_, canAll_strs fun y hy => h y (List.mem_cons_of_mem _ hy)⟩
    unfold PyData.strOk
    rw [← Array.all_toList, List.all_eq_true]
    intro c hc
    have := h z List.mem_cons_self c hc
    unfold SgOk at this
    exact decide_eq_true (by omega)
theorem depthAll_strs : ∀ zs : List Str, PyData.depthAll (zs.map PyData.str) = 0
  | [] => rfl
  | _ :: r => by simp [PyData.depthAll, PyData.depth, depthAll_strs r]
theorem dp_strs {K : PySem.W.Frag} {H : Hp} : ∀ zs : List Str, DpAll K H (sV zs) (zs.map PyData.str)
  | [] => .nil
  | z :: zs => .cons (.str z) (dp_strs zs)
section
variable {P : Program} {w : World} {K : PySem.W.Frag} {mg : Str → Option Value} {base : Heap} {cs : List (Addr × Addr)}
end
end TG
namespace TG
open PySem L2 Gx
def loB (rows : List (List Str)) (c : Nat) : Nat → Nat
  | 0 => 0
  | i + 1 => if clB rows c i = true then loB rows c i else i + 1
section
variable {P : Program} {w : World} {K : PySem.W.Frag} {mg : Str → Option Value} {base : Heap} {cs : List (Addr × Addr)}
end
end TG
namespace TG
open PySem L2 Gx
end TG
namespace TG
open PySem L2 Gx
def wB (rows : List (List Str)) (gap least : Int) (i c : Nat) : Int := widthB (cellsB rows c (loB rows c i) (hiB rows c i)) gap least
def rB (rows : List (List Str)) (i c : Nat) : Bool := rightB (cellsB rows c (loB rows c i) (hiB rows c i))
end TG
namespace TG
open PySem L2 Gx
section
variable {P : Program} {w : World} {K : PySem.W.Frag} {mg : Str → Option Value} {base : Heap} {cs : List (Addr × Addr)}
end
end TG
namespace TG
open PySem L2 Gx
/-- the list at l holds what is told of the first n closed cells of row i -/
def CellsAt (H : Hp) (rows : List (List Str)) (gap least : Int) (i n : Nat) (l : Addr) : Prop :=
  ∃ ts : List Addr, H l = some (.lst (ts.map V.ref)) ∧ ts.length = n ∧ ∀ (c : Nat) (t : Addr), ts[c]? = some t → H t = some (.tup [.int (wB rows gap least i c), .bl (rB rows i c)])
theorem CellsAt.ext {H H' : Hp} {rows : List (List Str)} {gap least : Int} {i n : Nat} {l : Addr} (x : CellsAt H rows gap least i n l) (e : LamX.ExtN H H') : CellsAt H' rows gap least i n l :=
  let ⟨ts, h1, h2, h3⟩ := x
  ⟨ts, e _ _ h1 (by intro ps z; cases z), h2, fun c t h => e _ _ (h3 c t h) (by intro ps z; cases z)⟩
theorem CellsAt.upd {H : Hp} {rows : List (List Str)} {gap least : Int} {i n : Nat} {l p : Addr} {xs : List V} {o : HO} (x : CellsAt H rows gap least i n l) (hp : H p = some (.lst xs)) (ne : l ≠ p) : CellsAt (upd H p o) rows gap least i n l :=
  let ⟨ts, h1, h2, h3⟩ := x
  ⟨ts, by rw [upd_ne ne]; exact h1, h2, fun c t h => by rw [upd_ne (ne_of (h3 c t h) hp (by intro z; cases z))]; exact h3 c t h⟩
section
variable {P : Program} {w : World} {K : PySem.W.Frag} {mg : Str → Option Value} {base : Heap} {cs : List (Addr × Addr)}
end
end TG
namespace TG
open PySem L2 Gx
/-- the list at r holds lists of numbers, f tells them -/
structure ToldAt (H : Hp) (r : Addr) (es : List Addr) (f : Nat → List Int) (n : Nat) : Prop where
  lst : H r = some (.lst (es.map V.ref))
  len : es.length = n
  nd : es.Nodup
  at_ : ∀ (i : Nat) (e : Addr), es[i]? = some e → H e = some (.lst ((f i).map V.int))
theorem ToldAt.ext {H H' : Hp} {r : Addr} {es : List Addr} {f : Nat → List Int} {n : Nat} (t : ToldAt H r es f n) (x : LamX.ExtN H H') : ToldAt H' r es f n :=
  ⟨x _ _ t.lst (by intro ps z; cases z), t.len, t.nd, fun i e h => x _ _ (t.at_ i e h) (by intro ps z; cases z)⟩
theorem tabs_ext {cs : List (Addr × Addr)} {H H' : Hp} (t : Tabs cs H) (x : Same H H') : Tabs cs H' := fun p hp => let ⟨ps, h1, h2⟩ := t p hp; ⟨ps, x _ _ h1, h2⟩
theorem same_ext {H H' : Hp} (x : Same H H') : LamX.ExtN H H' := fun b o e _ => x b o e
theorem ex_same {cs : List (Addr × Addr)} {H H' : Hp} (t : Tabs cs H) (x : Same H H') : Ex cs H H' := ⟨same_ext x, tabs_ext t x, fun _ n => same_old x n, fun b o e _ => x b o e⟩
section
variable {P : Program} {w : World} {K : PySem.W.Frag} {mg : Str → Option Value} {base : Heap} {cs : List (Addr × Addr)}
end
end TG
namespace TG
open PySem L2 Gx
section
variable {P : Program} {w : World} {K : PySem.W.Frag} {mg : Str → Option Value} {base : Heap} {cs : List (Addr × Addr)}
end
end TG
namespace TG
open PySem L2 Gx
section
variable {P : Program} {w : World} {K : PySem.W.Frag} {mg : Str → Option Value} {base : Heap} {cs : List (Addr × Addr)}
end
end TG
namespace TG
open PySem L2 Gx
theorem ToldAt.go {H H' : Hp} {r : Addr} {es : List Addr} {f : Nat → List Int} {n : Nat} (t : ToldAt H r es f n) (x : Same H H') : ToldAt H' r es f n := t.ext (same_ext x)
section
variable {P : Program} {w : World} {K : PySem.W.Frag} {mg : Str → Option Value} {base : Heap} {cs : List (Addr × Addr)}
theorem StyleAt.same {H H' : Hp} {a : Addr} {gap least : Int} (p : StyleAt K H a gap least) (e : Same H H') : StyleAt K H' a gap least := ⟨same_sqT e p.tup, p.g0, p.g1, p.l0, p.l1⟩
end
end TG
namespace TG
open PySem L2 Gx
theorem ToldAt.congr {H : Hp} {r : Addr} {es : List Addr} {f g : Nat → List Int} {n : Nat} (t : ToldAt H r es f n) (e : ∀ i, i < n → f i = g i) : ToldAt H r es g n :=
  ⟨t.lst, t.len, t.nd, fun i u h => by rw [← e i (by rw [← t.len]; exact (List.getElem?_eq_some_iff.mp h).1)]; exact t.at_ i u h⟩
theorem ToldAt.put {H : Hp} {r : Addr} {es : List Addr} {f : Nat → List Int} {n i : Nat} {e : Addr} {xs : List Int} (t : ToldAt H r es f n) (he : es[i]? = some e) (ne : e ≠ r) : ToldAt (upd H e (.lst (xs.map V.int))) r es (fun k => if k = i then xs else f k) n := by
  refine ⟨by rw [upd_ne ne.symm]; exact t.lst, t.len, t.nd, fun k u h => ?_⟩
  by_cases q : k = i
  · subst q
    rw [he] at h
    cases h
    rw [upd_same, if_pos rfl]
  · rw [if_neg q, upd_ne (fun z => q (nd_ix t.nd h (by rw [z]; exact he)))]
    exact t.at_ k u h
section
variable {P : Program} {w : World} {K : PySem.W.Frag} {mg : Str → Option Value} {base : Heap} {cs : List (Addr × Addr)}
end
end TG
namespace TG
open PySem L2 Gx
def rowsD (rows : List (List Str)) : List PyData := rows.map fun r => .tuple (r.map .str)
theorem dp_rows {K : PySem.W.Frag} {H : Hp} : ∀ {as : List Addr} {rows : List (List Str)}, as.length = rows.length → (∀ (i : Nat) (q : Addr) (r : List Str), as[i]? = some q → rows[i]? = some r → SqT K H q (sV r)) → DpAll K H (as.map V.ref) (rowsD rows)
  | [], [], _, _ => .nil
  | [], _ :: _, h, _ => by simp at h
  | _ :: _, [], h, _ => by simp at h
  | a :: as, r :: rows, h, k => .cons (.tup (k 0 a r rfl rfl) (dp_strs r)) (dp_rows (by simpa using h) fun i q r' h1 h2 => k (i + 1) q r' (by simpa using h1) (by simpa using h2))
theorem canAll_rows : ∀ {rows : List (List Str)}, (∀ r ∈ rows, ∀ z ∈ r, CellOk z) → PyData.canLayAll0 (rowsD rows) = true
  | [], _ => rfl
  | r :: rows, h => by
    show PyData.canLayAll0 (.tuple (r.map .str) :: rowsD rows) = true
    simp only [PyData.canLayAll0, PyData.canLay0, Bool.and_eq_true]
    exact ⟨canAll_strs fun z hz => (h r List.mem_cons_self z hz).sg, canAll_rows fun r' hr => h r' (List.mem_cons_of_mem _ hr)⟩
theorem depthAll_rows : ∀ rows : List (List Str), PyData.depthAll (rowsD rows) ≤ 1
  | [] => Nat.zero_le _
  | r :: rows => by
    show PyData.depthAll (.tuple (r.map .str) :: rowsD rows) ≤ 1
    simp only [PyData.depthAll, PyData.depth, depthAll_strs]
    have := depthAll_rows rows
    omega
theorem can_rows {rows : List (List Str)} (h : PgOk rows) : PyData.canLay0 (.list (rowsD rows)) = true := by
  simp only [PyData.canLay0]
  exact canAll_rows fun r hr z hz => (h.rows r hr).cells z hz
theorem tabs_kb {cs : List (Addr × Addr)} {b l : Addr} {H H' : Hp} (t : Tabs cs H) (B : BoxAt H b l) (x : KB b l H H') : Tabs cs H' := fun p hp => by
  obtain ⟨ps, h1, h2⟩ := t p hp
  obtain ⟨ns, st, e1, e2, _⟩ := B
  exact ⟨ps, x _ _ h1 (ne_of h1 e1 (by intro z; cases z)) (ne_of h1 e2 (by intro z; cases z)), h2⟩
theorem box_ext {b l : Addr} {H H' : Hp} (B : BoxAt H b l) (x : LamX.ExtN H H') : BoxAt H' b l := let ⟨ns, st, h1, h2, h3⟩ := B; ⟨ns, st, x _ _ h1 (by intro ps z; cases z), x _ _ h2 (by intro ps z; cases z), h3⟩
/-- what stands in a turn of the law: the box, the tables, the page and its copy, the style -/
structure PageT (cs : List (Addr × Addr)) (b l p q h : Addr) (as : List Addr) (rows : List (List Str)) (gap least : Int) (H : Hp) : Prop where
  box : BoxAt H b l
  tab : Tabs cs H
  pg : H p = some (.lst (as.map V.ref))
  hd : H h = some (.lst (as.map V.ref))
  al : as.length = rows.length
  row : ∀ (i : Nat) (a : Addr) (z : List Str), as[i]? = some a → rows[i]? = some z → H a = some (.tup (sV z))
  sty : H q = some (.tup [.int gap, .int least])
  g0 : 0 ≤ gap
  g1 : gap ≤ 4
  l0 : 0 ≤ least
  l1 : least ≤ 12
  ok : PgOk rows
theorem PageT.ext {cs : List (Addr × Addr)} {b l p q h : Addr} {as : List Addr} {rows : List (List Str)} {gap least : Int} {H H' : Hp} (t : PageT cs b l p q h as rows gap least H) (x : LamX.ExtN H H') (y : Tabs cs H') : PageT cs b l p q h as rows gap least H' :=
  ⟨box_ext t.box x, y, x _ _ t.pg (by intro ps z; cases z), x _ _ t.hd (by intro ps z; cases z), t.al, fun i a z h1 h2 => x _ _ (t.row i a z h1 h2) (by intro ps z; cases z), x _ _ t.sty (by intro ps z; cases z), t.g0, t.g1, t.l0, t.l1, t.ok⟩
end TG
namespace Zm
open PySem PySem.Spec PyProof.Rows L2
section
variable {P : Program} {w : World} {A : Around} {E : Value → Shared → Prop} {s : Shared} {z TI TO i1 i2 l1 l2 : Addr}
end
end Zm
namespace Zm
open PySem PySem.Spec PyProof.Rows L2
abbrev k1 (h : Heap) (a : Addr) : Heap := h.push { cls := .type "tuple_iterator", data := .fields #[.ref a, .int 0 0] }
abbrev k2 (h : Heap) (a b : Addr) : Heap := (k1 h a).push { cls := .type "list_iterator", data := .fields #[.ref b, .int 0 0] }
abbrev k3 (h : Heap) (a b : Addr) : Heap := (k2 h a b).push { cls := .type "tuple", data := .seq #[.ref h.objs.size, .ref (k1 h a).objs.size] }
abbrev k4 (h : Heap) (a b : Addr) : Heap := (k3 h a b).push { cls := .type "tuple", data := .seq #[.none, .none] }
abbrev k5 (h : Heap) (a b : Addr) : Heap := (k4 h a b).push { cls := .type "zip", data := .fields #[.none, .bool false, .bool false, .ref (k2 h a b).objs.size, .ref (k3 h a b).objs.size] }
section
variable {P : Program} {w : World} {A : Around} {E : Value → Shared → Prop} {s : Shared}
end
end Zm
namespace TG
open PySem L2 Gx
section
variable {P : Program} {w : World} {K : PySem.W.Frag} {mg : Str → Option Value} {base : Heap} {cs : List (Addr × Addr)}
end
end TG
namespace TG
open PySem L2 Gx
section
variable {P : Program} {w : World} {K : PySem.W.Frag} {mg : Str → Option Value} {base : Heap} {cs : List (Addr × Addr)}
end
end TG
namespace Lv
open PySem PySem.Spec PyProof.Rows L2 NdefX GenW
section
variable {X : Cx} {pins : List (Addr × Obj)} {σ : L2.St} {H : Hp} {s : Shared}
end
section
variable {P : Program} {w : World} {K : PySem.W.Frag} {mg : Str → Option Value} {base : Heap}
end
end Lv
namespace TG
open PySem PySem.Spec PyProof.Rows L2
section
variable {P : Program} {w : World}
variable {K : PySem.W.Frag} {mg : Str → Option Value} {base : Heap} {A : Around} {outer : List Env} {s s' : Shared}
end
end TG
namespace TG
open PySem PySem.Spec PyProof.Rows L2 NdefX GenW Gx Lv
section
variable {P : Program} {w : World} {K : PySem.W.Frag} {mg : Str → Option Value} {base : Heap}
end
end TG
namespace TG
open PySem PySem.Spec PyProof.Rows L2 NdefX GenW Gx Lv
end TG
namespace TG
open PySem PySem.Spec PyProof.Rows L2 NdefX GenW Gx Lv
end TG
namespace L2
open PySem PySem.Spec PyProof.Rows
/-! ### min(xs, key=len, default=d), xs a list of lists -/
abbrev bestLen (f : Nat → Nat) (n : Nat) : Nat := argBest (fun i j => decide (((f i : Nat) : Int) < ((f j : Nat) : Int))) (n - 1)
theorem bestLen_first (f : Nat → Nat) {n : Nat} (hn : 0 < n) : bestLen f n < n ∧ ∀ j, j < n → f (bestLen f n) ≤ f j ∧ (j < bestLen f n → f (bestLen f n) < f j) := by
  have key : ∀ k, argBest (fun i j => decide (((f i : Nat) : Int) < ((f j : Nat) : Int))) k ≤ k ∧ ∀ j, j ≤ k → f (argBest (fun i j => decide (((f i : Nat) : Int) < ((f j : Nat) : Int))) k) ≤ f j ∧ (j < argBest (fun i j => decide (((f i : Nat) : Int) < ((f j : Nat) : Int))) k → f (argBest (fun i j => decide (((f i : Nat) : Int) < ((f j : Nat) : Int))) k) < f j) := by
    intro k
    induction k with
    | zero =>
      refine ⟨Nat.le_refl _, fun j hj => ?_⟩
      have e : j = 0 := by omega
      subst e
      exact ⟨Nat.le_refl _, fun h => absurd h (Nat.not_lt_zero 0)⟩
    | succ k ih =>
      obtain ⟨h1, h2⟩ := ih
      have e : argBest (fun i j => decide (((f i : Nat) : Int) < ((f j : Nat) : Int))) (k + 1) = if decide (((f (k + 1) : Nat) : Int) < ((f (argBest (fun i j => decide (((f i : Nat) : Int) < ((f j : Nat) : Int))) k) : Nat) : Int)) = true then k + 1 else argBest (fun i j => decide (((f i : Nat) : Int) < ((f j : Nat) : Int))) k := rfl
      rw [e]
      generalize argBest (fun i j => decide (((f i : Nat) : Int) < ((f j : Nat) : Int))) k = a at h1 h2 ⊢
      by_cases c : ((f (k + 1) : Nat) : Int) < ((f a : Nat) : Int)
      · rw [decide_eq_true c, if_pos rfl]
        refine ⟨Nat.le_refl _, fun j hj => ?_⟩
        by_cases q : j = k + 1
        · subst q
          exact ⟨Nat.le_refl _, fun h => absurd h (Nat.lt_irrefl _)⟩
        · have := (h2 j (by omega)).1
          exact ⟨by omega, fun _ => by omega⟩
      · rw [decide_eq_false c, if_neg (by simp)]
        refine ⟨by omega, fun j hj => ?_⟩
        by_cases q : j = k + 1
        · subst q
          exact ⟨by omega, fun h => by omega⟩
        · exact h2 j (by omega)
  obtain ⟨h1, h2⟩ := key (n - 1)
  exact ⟨by unfold bestLen; omega, fun j hj => h2 j (by omega)⟩
section
variable {prog : Program} {w : World} {A : Around} {E : Value → Shared → Prop} {s : Shared}
theorem min_len_raw {l : Addr} {its : List Value} {d : Value} {Q : Value → Shared → Prop} (hh : A.handled = none) (hl : s.heap.IsList l its.toArray) (lens : Nat → Nat) (hb : ∀ (i : Nat) (v : Value), its[i]? = some v → ∃ (b : Addr) (items : Array Value), v = .ref b ∧ s.heap.IsList b items ∧ items.size = lens i ∧ (items.size : Int) < 2 ^ 63)
    (h0 : its.length = 0 → ∀ h' tk, (∀ b o, s.heap.get? b = some o → h'.get? b = some o) → Q d { s with heap := h', toks := tk })
    (h1 : 0 < its.length → ∀ v h' tk, its[bestLen lens its.length]? = some v → (∀ b o, s.heap.get? b = some o → h'.get? b = some o) → Q v { s with heap := h', toks := tk }) :
    wpAny (model prog w) A (call (.builtin "min") [.ref l] [(Str.ofString "key", .builtin "len"), (Str.ofString "default", d)]) Q E s := by
  have hlt : l < s.heap.objs.size := by obtain ⟨_, e, _⟩ := hl; exact Heap.lt_size e
  refine call_min_walkKBD (wpAny_pyIter_list hl ?_)
  have hsz : its.toArray.size = its.length := List.size_toArray ..
  refine ⟨s.heap.objs.size, [s.heap.objs.size, l], [s.heap.objs.size], _, its.toArray.size, _, _, fun s' => ∃ h' tk, s' = { s with heap := h', toks := tk } ∧ ∀ b o, s.heap.get? b = some o → h'.get? b = some o, fun i k _ => ∃ t, k = .int ((lens i : Nat) : Int) t, fun i j => decide (((lens i : Nat) : Int) < ((lens j : Nat) : Int)), rfl,
    (Walks.list (A := A.in1) hh _ l (Nat.ne_of_lt hlt) its.toArray).toS, ⟨⟨_, Heap.get?_push_size _ rfl, rfl, rfl⟩, hl.push _⟩, fun b hb' => ?_, ⟨fun s1 s2 hJ hm => ?_, fun i k s1 s2 hV _ => hV, fun i v s1 o Q E hi hP hJ hst hS k => ?_, fun i j ki kj s1 Q E _ hi hj q => ?_⟩, ⟨_, s.toks, rfl, fun b o e => Heap.get?_push_of_some _ e⟩, fun hn s' hJ => ?_, fun hn v s' hP hJ => ?_⟩
  · show b < (s.heap.push _).objs.size
    rw [Heap.size_push]
    rcases List.mem_cons.mp hb' with rfl | hb'
    · exact Nat.lt_succ_self _
    · rw [List.mem_singleton.mp hb']
      exact Nat.lt_succ_of_lt hlt
  · obtain ⟨h', tk, rfl, hk⟩ := hJ
    refine ⟨s2.heap, s2.toks, ?_, fun b o e => hm.heap b o (fun hb' => ?_) (hk b o e)⟩
    · have e1 := hm.gens
      have e2 := hm.drawn
      have e3 := hm.os
      cases s2
      simp only at e1 e2 e3
      rw [e1, e2, e3]
    · have lb := Heap.lt_size e
      rcases List.mem_cons.mp hb' with z | z
      · have : b = (s.heap.push ({ cls := .type "list_iterator", data := .fields #[.ref l, .int 0 0] } : Obj)).objs.size := z
        rw [Heap.size_push] at this
        rw [this] at lb
        exact absurd (Nat.lt_of_succ_lt lb) (Nat.lt_irrefl _)
      · rw [List.mem_singleton] at z
        rw [z] at lb
        exact absurd lb (Nat.lt_irrefl _)
  · obtain ⟨h', tk, rfl, hk⟩ := hJ
    have hv : its[i]? = some v := by simpa using hP
    obtain ⟨b, items, rfl, hL, hs, hf⟩ := hb i v hv
    have hL' : Heap.IsList h' b items := by
      obtain ⟨o, e, r⟩ := hL
      exact ⟨o, hk b o e, r⟩
    refine PySem.Calls.call_len_list (s := { s with heap := h', toks := tk }) hL' hf ?_
    rw [hs]
    exact k _ _ ⟨h', _, rfl, hk⟩ hst hS ⟨_, rfl⟩ fun j k' hV => hV
  · exact CmpOf.ints_lt (prog := prog) (w := w) (A := A.in1) (P := fun i v => ∃ t, v = .int ((lens i : Nat) : Int) t) (fun i => ((lens i : Nat) : Int)) (fun i v h => h) i j ki kj s1 Q E hi hj q
  · obtain ⟨h', tk, rfl, hk⟩ := hJ
    exact h0 (by rw [← hsz]; exact hn) h' tk hk
  · obtain ⟨h', tk, rfl, hk⟩ := hJ
    rw [hsz] at hn hP
    have hP : its.toArray[bestLen lens its.length]? = some v := hP
    rw [List.getElem?_toArray] at hP
    exact h1 hn v h' tk hP hk
end
section
variable {X : Cx}
def rMinLen (K : PySem.W.Frag) (Q : VK) (x d : V) (H : Hp) : Prop := ∃ (a : Addr) (bs : List Addr) (lens : Nat → Nat), x = .ref a ∧ SqL K H a (bs.map V.ref) ∧ (∀ (i : Nat) (b : Addr), bs[i]? = some b → ∃ xs, SqL K H b xs ∧ xs.length = lens i) ∧
  (bs.length = 0 → Q d H) ∧ (0 < bs.length → ∀ b, bs[bestLen lens bs.length]? = some b → Q (.ref b) H)
def tMinLen (K : PySem.W.Frag) (ta td : TE) : TE := fun σ H Q => ta σ H fun x H1 => td σ H1 fun d H2 => rMinLen K Q x d H2
theorem pe_minLen {p p1 q1' q2 pos : Pos} {e d : Expr} {ta td : TE} (hc : X.calm = true) (hg : Gl X "min") (hm : X.mg "min" = none) (hg2 : Gl X "len") (hm2 : X.mg "len" = none) (ha : PE X e ta) (hd : PE X d td)
    (hs : starEach [e] X.env = (false, eval e X.env) :: starEach [] X.env := by rfl) (he : backTo pos (starEach [e] X.env) = [(false, eval e X.env)] := by rfl) (hpl : (backTo pos (starEach [e] X.env)).any (·.1) = false := by rfl) :
    PE X (.Call (.Name "min" p) [e] [⟨some (Str.ofString "key"), .Name "len" p1, q1'⟩, ⟨some (Str.ofString "default"), d, q2⟩] pos) (tMinLen X.K ta td) := by
  refine ⟨fun pins s σ H Q I h => ?_⟩
  refine wpAny_Call_Name_kw (ld_blt I hg hm (show bootBuiltins (Str.ofString "min") = some (.builtin "min") by decide +kernel) ?_ (by decide) (by decide))
  have h2 : tCons ta tNil σ H (fun vs H1 => match vs with | [x] => td σ H1 (fun d H2 => rMinLen X.K Q x d H2) | _ => False) := h
  refine PyProof.Rows.callWith_kw (thn ((pa_cons (hs := hs) ha pa_nil).run pos pins s σ H _ I h2) fun us s1 ⟨vs, H1, I1, r1, q1⟩ => ?_) he hpl (by rfl) (by rfl)
  obtain ⟨x, rfl⟩ : ∃ x, vs = [x] := by
    cases vs with
    | nil => exact False.elim q1
    | cons x r =>
      cases r with
      | nil => exact ⟨x, rfl⟩
      | cons _ _ => exact False.elim q1
  obtain ⟨u, rfl, rx⟩ := vals1 r1
  have q1 : td σ H1 (fun d H2 => rMinLen X.K Q x d H2) := q1
  have ek : (backToKw pos (keywordEach [⟨some (Str.ofString "key"), .Name "len" p1, q1'⟩, ⟨some (Str.ofString "default"), d, q2⟩] X.env)).map (·.2) = [(do let v ← eval (.Name "len" p1) X.env; standAt pos; pure v), (do let v ← eval d X.env; standAt pos; pure v)] := by rfl
  have en : (backToKw pos (keywordEach [⟨some (Str.ofString "key"), .Name "len" p1, q1'⟩, ⟨some (Str.ofString "default"), d, q2⟩] X.env)).filterMap (·.1) = [Str.ofString "key", Str.ofString "default"] := by rfl
  rw [ek, en]
  refine wpAny_evalAll_cons (wpAny_bind (ld_blt I1 hg2 hm2 (show bootBuiltins (Str.ofString "len") = some (.builtin "len") by decide +kernel) (wpAny_bind (wpAny_standAt (wpAny_pure ?_))) (by decide) (by decide)))
  refine wpAny_evalAll_cons (wpAny_bind (thn (hd.run pins s1 σ H1 _ I1 q1) fun w s2 ⟨dv, H2, I2, r2, q2⟩ => wpAny_bind (wpAny_standAt (wpAny_pure (wpAny_evalAll_nil ?_)))))
  obtain ⟨a, bs, lens, rfl, hs, hb, h0, h1⟩ := q2
  obtain rfl : u = Value.ref a := rx
  obtain ⟨its, rv, hl, hz⟩ := I2.list hs
  have hlen : its.length = bs.length := by rw [← rv.length, List.length_map]
  have item : ∀ (i : Nat) (v : Value), its[i]? = some v → ∃ b, bs[i]? = some b ∧ v = .ref b := fun i v e => by
    have hi := (List.getElem?_eq_some_iff.mp e).1
    obtain ⟨b, hb'⟩ : ∃ b, bs[i]? = some b := ⟨bs[i]'(by omega), List.getElem?_eq_getElem (by omega)⟩
    obtain ⟨v', e', r'⟩ := rv.get (i := i) (x := .ref b) (by rw [List.getElem?_map, hb']; rfl)
    rw [e] at e'
    cases e'
    exact ⟨b, hb', r'⟩
  show wpAny _ _ (call (.builtin "min") [.ref a] [(Str.ofString "key", .builtin "len"), (Str.ofString "default", w)]) _ _ s2
  refine min_len_raw (I2.ok.hd hc) hl.isList lens (fun i v e => ?_) (fun hn h' tk hk => ?_) (fun hn v h' tk e hk => ?_)
  · obtain ⟨b, hb', rfl⟩ := item i v e
    obtain ⟨xs, hx, lx⟩ := hb i b hb'
    obtain ⟨its2, rv2, hl2, hz2⟩ := I2.list hx
    have l2 : its2.toArray.size = xs.length := by rw [List.size_toArray, ← rv2.length]
    refine ⟨b, its2.toArray, rfl, hl2.isList, by rw [l2, lx], ?_⟩
    rw [l2]
    rw [sizeLine_eq] at hz2
    omega
  · exact ⟨dv, H2, I2.kept hk, r2, h0 (by omega)⟩
  · obtain ⟨b, hb', rfl⟩ := item _ v e
    rw [hlen] at hb' hn
    exact ⟨.ref b, H2, I2.kept hk, rfl, h1 hn b hb'⟩
end
end L2

namespace RT
open PySem L2
/-! ### the fewest steps -/
abbrev Row := List Str
inductive Stp where
  | change (n : Nat)
  | put (n : Nat)
  | take (n : Nat)
/-- the first of the shortest -/
def pickS (l : List (List Stp)) : List Stp := l.getD (bestLen (fun i => (l.getD i []).length) l.length) []
open Classical in
noncomputable def plan : List Row → List Row → Nat → List Stp
  | [], [], _ => []
  | [], _ :: o, j => .put j :: plan [] o (j + 1)
  | _ :: p, [], j => .take j :: plan p [] j
  | a :: p, b :: o, j => pickS ((if a = b then [plan p o (j + 1)] else []) ++ [.change j :: plan p o (j + 1), .put j :: plan (a :: p) o (j + 1), .take j :: plan p (b :: o) j])
termination_by p o => p.length + o.length
open Classical in
noncomputable def ed : List Row → List Row → Nat
  | [], o => o.length
  | a :: p, [] => (a :: p).length
  | a :: p, b :: o => min ((if a = b then 0 else 1) + ed p o) (1 + min (ed (a :: p) o) (ed p (b :: o)))
termination_by p o => p.length + o.length
theorem ed_nil (o : List Row) : ed [] o = o.length := by rw [ed]
theorem ed_nil2 (p : List Row) : ed p [] = p.length := by
  cases p with
  | nil => rw [ed]
  | cons a p => rw [ed]
open Classical in
theorem ed_cons (a b : Row) (p o : List Row) : ed (a :: p) (b :: o) = min ((if a = b then 0 else 1) + ed p o) (1 + min (ed (a :: p) o) (ed p (b :: o))) := by rw [ed]
theorem pick_mem {l : List (List Stp)} (h : l ≠ []) : pickS l ∈ l := by
  have hp := List.length_pos_iff.mpr h
  obtain ⟨h1, _⟩ := bestLen_first (fun i => (l.getD i []).length) hp
  unfold pickS
  rw [List.getD_eq_getElem?_getD, List.getElem?_eq_getElem h1]
  exact List.getElem_mem h1
theorem pick_le {l : List (List Stp)} {x : List Stp} (h : x ∈ l) : (pickS l).length ≤ x.length := by
  obtain ⟨j, hj, rfl⟩ := List.mem_iff_getElem.mp h
  obtain ⟨_, h2⟩ := bestLen_first (fun i => (l.getD i []).length) (Nat.lt_of_le_of_lt (Nat.zero_le _) hj)
  have := (h2 j hj).1
  have e : l.getD j [] = l[j] := by rw [List.getD_eq_getElem?_getD, List.getElem?_eq_getElem hj]; rfl
  unfold pickS
  rw [e] at this
  exact this
open Classical in
theorem plan_cons (a b : Row) (p o : List Row) (j : Nat) : plan (a :: p) (b :: o) j = pickS ((if a = b then [plan p o (j + 1)] else []) ++ [.change j :: plan p o (j + 1), .put j :: plan (a :: p) o (j + 1), .take j :: plan p (b :: o) j]) := by rw [plan]
theorem plan_len : ∀ (n : Nat) (p o : List Row) (j : Nat), p.length + o.length ≤ n → (plan p o j).length = ed p o
  | _, [], [], _, _ => by rw [plan, ed_nil]; rfl
  | 0, [], _ :: _, _, h => by simp at h
  | n + 1, [], b :: o, j, h => by
    rw [plan, ed_nil, List.length_cons, plan_len n [] o (j + 1) (by simp at h ⊢; omega), ed_nil]
    rfl
  | 0, _ :: _, [], _, h => by simp at h
  | n + 1, a :: p, [], j, h => by
    rw [plan, ed_nil2, List.length_cons, plan_len n p [] j (by simp at h ⊢; omega), ed_nil2]
    rfl
  | 0, _ :: _, _ :: _, _, h => by simp at h
  | n + 1, a :: p, b :: o, j, h => by
    have l1 := plan_len n p o (j + 1) (by simp at h ⊢; omega)
    have l2 := plan_len n (a :: p) o (j + 1) (by simp at h ⊢; omega)
    have l3 := plan_len n p (b :: o) j (by simp at h ⊢; omega)
    rw [plan_cons, ed_cons]
    have hm := pick_mem (l := (if a = b then [plan p o (j + 1)] else []) ++ [.change j :: plan p o (j + 1), .put j :: plan (a :: p) o (j + 1), .take j :: plan p (b :: o) j]) (by simp)
    have h1 := pick_le (l := (if a = b then [plan p o (j + 1)] else []) ++ [.change j :: plan p o (j + 1), .put j :: plan (a :: p) o (j + 1), .take j :: plan p (b :: o) j]) (x := .change j :: plan p o (j + 1)) (by simp)
    have h2 := pick_le (l := (if a = b then [plan p o (j + 1)] else []) ++ [.change j :: plan p o (j + 1), .put j :: plan (a :: p) o (j + 1), .take j :: plan p (b :: o) j]) (x := .put j :: plan (a :: p) o (j + 1)) (by simp)
    have h3 := pick_le (l := (if a = b then [plan p o (j + 1)] else []) ++ [.change j :: plan p o (j + 1), .put j :: plan (a :: p) o (j + 1), .take j :: plan p (b :: o) j]) (x := .take j :: plan p (b :: o) j) (by simp)
    rw [List.length_cons] at h1 h2 h3
    by_cases c : a = b
    · have h0 := pick_le (l := (if a = b then [plan p o (j + 1)] else []) ++ [.change j :: plan p o (j + 1), .put j :: plan (a :: p) o (j + 1), .take j :: plan p (b :: o) j]) (x := plan p o (j + 1)) (by simp [c])
      rw [if_pos c] at h0 h1 h2 h3 hm ⊢
      rw [if_pos c]
      generalize pickS _ = z at h0 h1 h2 h3 hm ⊢
      simp only [List.singleton_append, List.mem_cons, List.not_mem_nil, or_false] at hm
      rcases hm with e | e | e | e
      · rw [e] at h0 h1 h2 h3 ⊢; omega
      · rw [e, List.length_cons] at h0 h1 h2 h3 ⊢; omega
      · rw [e, List.length_cons] at h0 h1 h2 h3 ⊢; omega
      · rw [e, List.length_cons] at h0 h1 h2 h3 ⊢; omega
    · rw [if_neg c] at h1 h2 h3 hm ⊢
      rw [if_neg c]
      generalize pickS _ = z at h1 h2 h3 hm ⊢
      simp only [List.nil_append, List.mem_cons, List.not_mem_nil, or_false] at hm
      rcases hm with e | e | e
      · rw [e, List.length_cons] at h1 h2 h3 ⊢; omega
      · rw [e, List.length_cons] at h1 h2 h3 ⊢; omega
      · rw [e, List.length_cons] at h1 h2 h3 ⊢; omega
theorem ed_le : ∀ (n : Nat) (p o : List Row), p.length + o.length ≤ n → ed p o ≤ max p.length o.length ∧ p.length ≤ ed p o + o.length ∧ o.length ≤ ed p o + p.length
  | _, [], o, _ => by rw [ed_nil]; simp
  | _, a :: p, [], _ => by rw [ed_nil2]; simp
  | 0, _ :: _, _ :: _, h => by simp at h
  | n + 1, a :: p, b :: o, h => by
    have h1 := ed_le n p o (by simp at h ⊢; omega)
    have h2 := ed_le n (a :: p) o (by simp at h ⊢; omega)
    have h3 := ed_le n p (b :: o) (by simp at h ⊢; omega)
    rw [ed_cons]
    simp only [List.length_cons] at h1 h2 h3 ⊢
    have q : (if a = b then 0 else 1) ≤ 1 := by split <;> omega
    generalize (if a = b then 0 else 1) = s at q ⊢
    omega
theorem ed_symm : ∀ (n : Nat) (p o : List Row), p.length + o.length ≤ n → ed p o = ed o p
  | _, [], o, _ => by rw [ed_nil, ed_nil2]
  | _, a :: p, [], _ => by rw [ed_nil2, ed_nil]
  | 0, _ :: _, _ :: _, h => by simp at h
  | n + 1, a :: p, b :: o, h => by
    have h1 := ed_symm n p o (by simp at h ⊢; omega)
    have h2 := ed_symm n (a :: p) o (by simp at h ⊢; omega)
    have h3 := ed_symm n p (b :: o) (by simp at h ⊢; omega)
    rw [ed_cons, ed_cons, h1, h2, h3]
    have e : (if a = b then 0 else 1) = (if b = a then 0 else 1) := by
      by_cases c : a = b
      · rw [if_pos c, if_pos c.symm]
      · rw [if_neg c, if_neg fun z => c z.symm]
    rw [e]
    generalize (if b = a then 0 else 1) = s
    omega
theorem ed_self : ∀ p : List Row, ed p p = 0
  | [] => by rw [ed_nil]; rfl
  | a :: p => by
    rw [ed_cons, ed_self p, if_pos rfl]
    omega
theorem ed_zero : ∀ (n : Nat) (p o : List Row), p.length + o.length ≤ n → ed p o = 0 → p = o
  | _, [], o, _, e => by
    rw [ed_nil] at e
    exact (List.eq_nil_of_length_eq_zero e).symm
  | _, a :: p, [], _, e => by rw [ed_nil2] at e; simp at e
  | 0, _ :: _, _ :: _, h, _ => by simp at h
  | n + 1, a :: p, b :: o, h, e => by
    rw [ed_cons] at e
    by_cases c : a = b
    · rw [if_pos c] at e
      have := ed_zero n p o (by simp at h ⊢; omega) (by omega)
      rw [c, this]
    · rw [if_neg c] at e
      omega
theorem ed_tri : ∀ (n : Nat) (a b c : List Row), a.length + b.length + c.length ≤ n → ed a c ≤ ed a b + ed b c
  | _, [], b, c, _ => by
    rw [ed_nil, ed_nil]
    have := (ed_le _ b c (Nat.le_refl _)).2.2
    omega
  | _, x :: a, b, [], _ => by
    rw [ed_nil2, ed_nil2]
    exact (ed_le _ (x :: a) b (Nat.le_refl _)).2.1
  | _, x :: a, [], z :: c, _ => by
    rw [ed_nil2, ed_nil]
    have := (ed_le _ (x :: a) (z :: c) (Nat.le_refl _)).1
    omega
  | 0, _ :: _, _ :: _, _ :: _, h => by simp at h
  | n + 1, x :: a, y :: b, z :: c, h => by
    have t1 := ed_tri n a (y :: b) (z :: c) (by simp at h ⊢; omega)
    have t2 := ed_tri n (x :: a) (y :: b) c (by simp at h ⊢; omega)
    have t3 := ed_tri n (x :: a) b (z :: c) (by simp at h ⊢; omega)
    have t4 := ed_tri n (x :: a) b c (by simp at h ⊢; omega)
    have t5 := ed_tri n a b (z :: c) (by simp at h ⊢; omega)
    have t6 := ed_tri n a b c (by simp at h ⊢; omega)
    have e1 := ed_cons x y a b
    have e2 := ed_cons y z b c
    have e3 := ed_cons x z a c
    have s : (if x = z then 0 else 1) ≤ (if x = y then 0 else 1) + (if y = z then 0 else 1) := by
      by_cases c1 : x = y
      · by_cases c2 : y = z
        · rw [if_pos (c1.trans c2)]; omega
        · rw [if_neg c2]; split <;> omega
      · rw [if_neg c1]; split <;> omega
    generalize (if x = z then 0 else 1) = s1 at s e3
    generalize (if x = y then 0 else 1) = s2 at s e1
    generalize (if y = z then 0 else 1) = s3 at s e2
    omega
end RT

namespace TGK
open TG RT
open PySem PySem.Spec PyProof.Rows L2 NdefX GenW Gx Lv
abbrev s_route : Stmt := top 16
abbrev s_ways : Stmt := top 17
/-! ### steps, ways in the heap -/
def StpA (H : Hp) (os : List Addr) (t : Addr) : Stp → Prop
  | .change n => ∃ q, os[n]? = some q ∧ H t = some (.tup [.str "change", .int (n : Nat), .ref q])
  | .put n => ∃ q, os[n]? = some q ∧ H t = some (.tup [.str "put", .int (n : Nat), .ref q])
  | .take n => H t = some (.tup [.str "take", .int (n : Nat)])
def StpsA (H : Hp) (os : List Addr) (D : Addr) (l : List Stp) : Prop := ∃ ts : List Addr, H D = some (.lst (ts.map V.ref)) ∧ ts.length = l.length ∧ ∀ (k : Nat) (t : Addr) (s : Stp), ts[k]? = some t → l[k]? = some s → StpA H os t s
/-- all but what stands at D stays, and no tuple stands there -/
structure Bt (D : Addr) (H H' : Hp) : Prop where
  kp : ∀ c o, H c = some o → c ≠ D → H' c = some o
  nt : ∀ xs, H D ≠ some (.tup xs)
theorem Bt.tup {D : Addr} {H H' : Hp} (x : Bt D H H') {t : Addr} {xs : List V} (h : H t = some (.tup xs)) : H' t = some (.tup xs) := x.kp _ _ h fun e => x.nt xs (e ▸ h)
theorem StpA.bt {D : Addr} {H H' : Hp} {os : List Addr} {t : Addr} {s : Stp} (x : Bt D H H') (h : StpA H os t s) : StpA H' os t s := by
  cases s with
  | change n =>
    obtain ⟨q, h1, h2⟩ := h
    exact ⟨q, h1, x.tup h2⟩
  | put n =>
    obtain ⟨q, h1, h2⟩ := h
    exact ⟨q, h1, x.tup h2⟩
  | take n => exact x.tup h
theorem StpsA.bt {D L : Addr} {H H' : Hp} {os : List Addr} {l : List Stp} (x : Bt D H H') (h : StpsA H os L l) (n : L ≠ D) : StpsA H' os L l := by
  obtain ⟨ts, h1, h2, h3⟩ := h
  exact ⟨ts, x.kp _ _ h1 n, h2, fun k t s e1 e2 => (h3 k t s e1 e2).bt x⟩
theorem bt_same {H H' : Hp} {D : Addr} (x : Same H H') (n : H D = none) : Bt D H H' := ⟨fun c o h _ => x c o h, fun xs h => by rw [n] at h; cases h⟩
theorem StpA.same {H H' : Hp} {os : List Addr} {t : Addr} {s : Stp} (x : Same H H') (h : StpA H os t s) : StpA H' os t s := by
  cases s with
  | change n =>
    obtain ⟨q, h1, h2⟩ := h
    exact ⟨q, h1, x _ _ h2⟩
  | put n =>
    obtain ⟨q, h1, h2⟩ := h
    exact ⟨q, h1, x _ _ h2⟩
  | take n => exact x _ _ h
theorem StpsA.same {L : Addr} {H H' : Hp} {os : List Addr} {l : List Stp} (x : Same H H') (h : StpsA H os L l) : StpsA H' os L l := by
  obtain ⟨ts, h1, h2, h3⟩ := h
  exact ⟨ts, x _ _ h1, h2, fun k t s e1 e2 => (h3 k t s e1 e2).same x⟩
theorem bt_upd {H : Hp} {D : Addr} {o : HO} (n : ∀ xs, H D ≠ some (.tup xs)) : Bt D H (upd H D o) := ⟨fun c u h e => by rw [upd_ne e]; exact h, n⟩
abbrev Opt := List Stp × Nat × Nat
def OptA (H : Hp) (os : List Addr) (D t : Addr) (o : Opt) : Prop := ∃ sl p, sl ≠ D ∧ H t = some (.tup [.ref sl, .ref p]) ∧ StpsA H os sl o.1 ∧ H p = some (.tup [.int (o.2.1 : Nat), .int (o.2.2 : Nat)])
theorem OptA.bt {D t : Addr} {H H' : Hp} {os : List Addr} {o : Opt} (x : Bt D H H') (h : OptA H os D t o) : OptA H' os D t o := by
  obtain ⟨sl, p, h1, h2, h3, h4⟩ := h
  exact ⟨sl, p, h1, x.tup h2, h3.bt x h1, x.tup h4⟩
theorem OptA.same {D t : Addr} {H H' : Hp} {os : List Addr} {o : Opt} (x : Same H H') (h : OptA H os D t o) : OptA H' os D t o := by
  obtain ⟨sl, p, h1, h2, h3, h4⟩ := h
  exact ⟨sl, p, h1, x _ _ h2, h3.same x, x _ _ h4⟩
structure OptL (H0 : Hp) (os : List Addr) (D : Addr) (l : List Opt) (H : Hp) : Prop where
  sm : Same H0 H
  nD : H0 D = none
  ts : ∃ ts : List Addr, H D = some (.lst (ts.map V.ref)) ∧ ts.length = l.length ∧ ∀ (k : Nat) (t : Addr) (o : Opt), ts[k]? = some t → l[k]? = some o → OptA H os D t o
theorem OptL.start {H0 : Hp} {os : List Addr} {D : Addr} (n : H0 D = none) : OptL H0 os D [] (upd H0 D (.lst [])) := ⟨same_new n, n, [], upd_same, rfl, fun j t v h => by cases h⟩
theorem OptL.more {H0 H H1 : Hp} {os : List Addr} {D t : Addr} {l : List Opt} {o : Opt} (ol : OptL H0 os D l H) (x : Same H H1) (ot : OptA H1 os D t o) :
    ∃ acc, H1 D = some (.lst acc) ∧ acc.length = l.length ∧ OptL H0 os D (l ++ [o]) (upd H1 D (.lst (acc ++ [.ref t]))) := by
  obtain ⟨ts, h1, h2, h3⟩ := ol.ts
  have hD := x _ _ h1
  have bt : Bt D H1 (upd H1 D (.lst (ts.map V.ref ++ [.ref t]))) := bt_upd fun xs h => by rw [hD] at h; cases h
  refine ⟨_, hD, by rw [List.length_map, h2], fun b u e => by rw [upd_ne (ne_of_none e ol.nD)]; exact x _ _ (ol.sm b u e), ol.nD, ts ++ [t], by rw [upd_same]; simp, by rw [List.length_append, List.length_append, h2]; rfl, fun j s u e1 e2 => ?_⟩
  by_cases hj : j < ts.length
  · rw [List.getElem?_append_left hj] at e1
    rw [List.getElem?_append_left (by rw [← h2]; exact hj)] at e2
    exact ((h3 j s u e1 e2).same x).bt bt
  · have hl := (List.getElem?_eq_some_iff.mp e1).1
    rw [List.length_append, List.length_singleton] at hl
    have ej : j = ts.length := by omega
    subst ej
    rw [List.getElem?_append_right (Nat.le_refl _), Nat.sub_self] at e1
    rw [h2, List.getElem?_append_right (Nat.le_refl _), Nat.sub_self] at e2
    cases e1
    cases e2
    exact ot.bt bt
/-- three new objects, one behind the other -/
theorem new3 {H : Hp} {a b c : Addr} {oa ob oc : HO} (na : H a = none) (nb : upd H a oa b = none) (nc : upd (upd H a oa) b ob c = none) :
    Same H (upd (upd (upd H a oa) b ob) c oc) ∧ upd (upd (upd H a oa) b ob) c oc a = some oa ∧ upd (upd (upd H a oa) b ob) c oc b = some ob ∧ upd (upd (upd H a oa) b ob) c oc c = some oc := by
  have s1 : Same H (upd H a oa) := same_new na
  have s2 : Same (upd H a oa) (upd (upd H a oa) b ob) := same_new nb
  have s3 : Same (upd (upd H a oa) b ob) (upd (upd (upd H a oa) b ob) c oc) := same_new nc
  exact ⟨same_trans s1 (same_trans s2 s3), s3 _ _ (s2 _ _ upd_same), s3 _ _ upd_same, upd_same⟩
theorem one_stp {H : Hp} {os : List Addr} {L t : Addr} {s : Stp} (h : H L = some (.lst [.ref t])) (a : StpA H os t s) : StpsA H os L [s] := ⟨[t], h, rfl, fun k t' s' e1 e2 => by
  cases k with
  | zero => cases e1; cases e2; exact a
  | succ k => cases e1⟩
def optsK (P O : List RT.Row) (i j : Nat) : List Opt :=
  (if i < P.length ∧ j < O.length then (if P.getD i [] = O.getD j [] then [([], i + 1, j + 1)] else []) ++ [([.change j], i + 1, j + 1)] else []) ++
  (if j < O.length then [([.put j], i, j + 1)] else []) ++ (if i < P.length then [([.take j], i + 1, j)] else [])
theorem eqv_strS : ∀ (x y : Str), PyData.eqv (.str x) (.str y) = decide (x = y) := fun x y => by
  simp only [PyData.eqv]
  by_cases h : x = y
  · rw [h, decide_eq_true rfl]; simp
  · rw [decide_eq_false h]; simp [h]
theorem eqvAll_strs : ∀ a b : List Str, PyData.eqvAll (a.map PyData.str) (b.map PyData.str) = decide (a = b)
  | [], [] => rfl
  | [], _ :: _ => rfl
  | _ :: _, [] => rfl
  | x :: a, y :: b => by
    rw [List.map_cons, List.map_cons]
    simp only [PyData.eqvAll, eqvAll_strs a b, eqv_strS]
    by_cases h1 : x = y <;> by_cases h2 : a = b <;> simp [h1, h2]
theorem eqv_row (a b : List Str) : PyData.eqv (.tuple (a.map .str)) (.tuple (b.map .str)) = decide (a = b) := by
  simp only [PyData.eqv, eqvAll_strs]
theorem shape_row {r : List Str} (h : RowOk r) : SeqAt.shaped (.tuple (r.map .str)) = true := by
  have c := canAll_strs (zs := r) fun z hz => (h.cells z hz).2
  unfold SeqAt.shaped
  simp only [PyData.canLay0, c, PyData.depth, depthAll_strs]
  rfl
theorem getD_get {l : List RT.Row} {i : Nat} (h : i < l.length) : l[i]? = some (l.getD i []) := by
  rw [List.getD_eq_getElem?_getD, List.getElem?_eq_getElem h]
  rfl
section
variable {P : Program} {w : World} {K : PySem.W.Frag} {mg : Str → Option Value} {base : Heap} {cs : List (Addr × Addr)}
def spWays (K : PySem.W.Frag) : Sp := fun vs H Q _ => ∃ (pg og : Addr) (as os : List Addr) (rp ro : List RT.Row) (i j : Nat), vs = [.ref pg, .ref og, .int (i : Nat), .int (j : Nat)] ∧ PageAt K H pg as rp ∧ PageAt K H og os ro ∧ PgOk rp ∧ PgOk ro ∧
  i ≤ rp.length ∧ j ≤ ro.length ∧ ∀ D H', OptL H os D (optsK rp ro i j) H' → Q (.ref D) H'
abbrev nmWays : List Str := ["page", "other", "here", "there", "found"]
theorem sc_ways : FnScope nmWays ["page", "other", "here", "there"] (defScope s_ways) := ⟨rfl, rfl, rfl, by decide +kernel, rfl, by decide +kernel, by decide +kernel⟩
theorem ok_ways {f : Addr} {fd : FuncData} (T : Txt mg) (F : Fun K "ways" "ways" s_ways f fd) : FnOk P w K mg base CX0 1 f fd ["page", "other", "here", "there"] (spWays K) := by
  refine F.ok sc_ways (fun vs H Q E h => ?_) (fun cdv A outer s H vs Q E hr h => ?_)
  · obtain ⟨pg, og, _, _, _, _, _, _, rfl, _⟩ := h
    rfl
  · obtain ⟨pg, og, as, os, rp, ro, i, j, rfl, hP, hO, gP, gO, hi, hj, k⟩ := h
    have nd := sc_ways.nd
    have hu := hr.units
    have lp : (as.map V.ref).length = rp.length := by rw [List.length_map, hP.len]
    have lo : (os.map V.ref).length = ro.length := by rw [List.length_map, hO.len]
    refine ⟨_, (pss_cons (ps_set (i := 4) nd rfl (.inl rfl) (pe_lst pa_nil))
      (pss_cons (ps_if (PW.pt (pw_and (pt_cmpR op_lt (pv 2) (pe_callB call_len_seq (by rfl) T.len PySem.boot_len (pa_cons (pv 0) pa_nil)) (nomark _)) (pw_and1 (pt_cmpR op_lt (pv 3) (pe_callB call_len_seq (by rfl) T.len PySem.boot_len (pa_cons (pv 1) pa_nil)) (nomark _))))) (pss_cons (ps_if (pt_cmpR (op_eqD hu) (pe_ix ix_list (pv 0) (pv 2) (fun _ _ => rfl)) (pe_ix ix_list (pv 1) (pv 3) (fun _ _ => rfl)) (nomark _)) (pss_one (ps_expr (pe_bm PySem.F.plainAttrs_list PySem.F.slot_list_append PySem.F.type_list_append mt_append (pv 4) (pa_cons (pe_tup (pa_cons (pe_lst pa_nil) (pa_cons (pe_tup (pa_cons (pe_op op_add (pv 2) pe_int) (pa_cons (pe_op op_add (pv 3) pe_int) pa_nil))) pa_nil))) pa_nil)))) pss_nil)
      (pss_one (ps_expr (pe_bm PySem.F.plainAttrs_list PySem.F.slot_list_append PySem.F.type_list_append mt_append (pv 4) (pa_cons (pe_tup (pa_cons (pe_lst (pa_cons (pe_tup (pa_cons pe_str (pa_cons (pv 3) (pa_cons (pe_ix ix_list (pv 1) (pv 3) (fun _ _ => rfl)) pa_nil)))) pa_nil)) (pa_cons (pe_tup (pa_cons (pe_op op_add (pv 2) pe_int) (pa_cons (pe_op op_add (pv 3) pe_int) pa_nil))) pa_nil))) pa_nil))))) pss_nil)
      (pss_cons (ps_if (pt_cmpR op_lt (pv 3) (pe_callB call_len_seq (by rfl) T.len PySem.boot_len (pa_cons (pv 1) pa_nil)) (nomark _)) (pss_one (ps_expr (pe_bm PySem.F.plainAttrs_list PySem.F.slot_list_append PySem.F.type_list_append mt_append (pv 4) (pa_cons (pe_tup (pa_cons (pe_lst (pa_cons (pe_tup (pa_cons pe_str (pa_cons (pv 3) (pa_cons (pe_ix ix_list (pv 1) (pv 3) (fun _ _ => rfl)) pa_nil)))) pa_nil)) (pa_cons (pe_tup (pa_cons (pv 2) (pa_cons (pe_op op_add (pv 3) pe_int) pa_nil))) pa_nil))) pa_nil)))) pss_nil)
      (pss_cons (ps_if (pt_cmpR op_lt (pv 2) (pe_callB call_len_seq (by rfl) T.len PySem.boot_len (pa_cons (pv 0) pa_nil)) (nomark _)) (pss_one (ps_expr (pe_bm PySem.F.plainAttrs_list PySem.F.slot_list_append PySem.F.type_list_append mt_append (pv 4) (pa_cons (pe_tup (pa_cons (pe_lst (pa_cons (pe_tup (pa_cons pe_str (pa_cons (pv 3) pa_nil))) pa_nil)) (pa_cons (pe_tup (pa_cons (pe_op op_add (pv 2) pe_int) (pa_cons (pv 3) pa_nil))) pa_nil))) pa_nil)))) pss_nil)
      (pss_one (ps_ret (pv 4))))))), ?_⟩
    refine ⟨small0, fun D nD => ?_⟩
    have ol := OptL.start (os := os) nD
    generalize upd H D (.lst []) = H1 at ol ⊢
    have lt9 : (9 : Nat) < sizeLine := by decide
    by_cases ci : i < rp.length
    · obtain ⟨qp, hpv0, hpr⟩ : ∃ q, as[i]? = some q ∧ SqT K H q (sV (rp.getD i [])) := ⟨as[i]'(by have := hP.len; omega), List.getElem?_eq_getElem _, hP.row i _ _ (List.getElem?_eq_getElem _) (getD_get ci)⟩
      have hpv : (as.map V.ref)[i]? = some (.ref qp) := by rw [List.getElem?_map, hpv0]; rfl
      have hpm : rp.getD i [] ∈ rp := List.mem_of_getElem? (getD_get ci)
      by_cases cj : j < ro.length
      · obtain ⟨q, hqv0, hqr⟩ : ∃ q, os[j]? = some q ∧ SqT K H q (sV (ro.getD j [])) := ⟨os[j]'(by have := hO.len; omega), List.getElem?_eq_getElem _, hO.row j _ _ (List.getElem?_eq_getElem _) (getD_get cj)⟩
        have hqv : (os.map V.ref)[j]? = some (.ref q) := by rw [List.getElem?_map, hqv0]; rfl
        have hqm : ro.getD j [] ∈ ro := List.mem_of_getElem? (getD_get cj)
        by_cases he : rp.getD i [] = ro.getD j []
        · have ek : optsK rp ro i j = [([], i + 1, j + 1), ([.change j], i + 1, j + 1), ([.put j], i, j + 1), ([.take j], i + 1, j)] := by unfold optsK; rw [if_pos ⟨ci, cj⟩, if_pos he, if_pos cj, if_pos ci]; rfl
          refine ⟨_, rfl, _, rfl, pg, _, rfl, .inl (same_sqL ol.sm hP.lst), _, _, rfl, rfl, true, dT (by rw [lp]; omega), iteT ⟨_, rfl, _, rfl, og, _, rfl, .inl (same_sqL ol.sm hO.lst), _, _, rfl, rfl, true, dT (by rw [lo]; omega), iteT ?_⟩⟩
          refine ⟨_, rfl, _, rfl, pg, _, ((i : Nat) : Int), .ref qp, rfl, rfl, same_sqL ol.sm hP.lst, atI_nat hpv, _, rfl, _, rfl, og, _, ((j : Nat) : Int), .ref q, rfl, rfl, same_sqL ol.sm hO.lst, atI_nat hqv, ?_⟩
          refine ⟨_, _, .tup (same_sqT ol.sm hpr) (dp_strs _), .tup (same_sqT ol.sm hqr) (dp_strs _), shape_row (gP.rows _ hpm), shape_row (gO.rows _ hqm), ?_⟩
          rw [eqv_row]
          refine ⟨true, dT he, iteT ?_⟩
          obtain ⟨ts, hD, _⟩ := ol.ts
          refine ⟨_, rfl, .inl ⟨rfl, _, SqL.of hD⟩, small0, fun L nL => ⟨_, rfl, _, _, rfl, rfl, _, rfl, _, _, rfl, rfl, by show 2 ≤ sizeLine; decide, fun T2 n2 => ⟨by show 2 ≤ sizeLine; decide, fun T3 n3 => ?_⟩⟩⟩
          have n3p := new3 (oa := .lst []) (ob := .tup [.int ((i + 1 : Nat)), .int ((j + 1 : Nat))]) (oc := .tup [.ref L, .ref T2]) nL n2 n3
          obtain ⟨sx, eL, e2, e3⟩ := n3p
          obtain ⟨acc, ha, hl, om⟩ := ol.more sx (o := ([], i + 1, j + 1)) ⟨L, T2, fun e => (by rw [e, hD] at nL; cases nL), e3, ⟨[], eL, rfl, fun k t s e => (by cases e)⟩, e2⟩
          refine ⟨D, acc, _, rfl, rfl, ha, by rw [hl]; simp only [List.nil_append, List.length_append, List.length_cons, List.length_nil]; omega, ?_⟩
          clear ol hD
          generalize hX : upd _ D _ = H9
          have ol : OptL H os D ([] ++ [([], i + 1, j + 1)]) H9 := by rw [← hX]; exact om
          clear hX om ha
          obtain ⟨ts, hD, _⟩ := ol.ts
          refine ⟨_, rfl, .inl ⟨rfl, _, SqL.of hD⟩, _, rfl, _, rfl, _, rfl, og, _, ((j : Nat) : Int), .ref q, rfl, rfl, same_sqL ol.sm hO.lst, atI_nat hqv, by show 3 ≤ sizeLine; decide, fun T1 n1 => ⟨by show 1 ≤ sizeLine; decide, fun L nL => ⟨_, rfl, _, _, rfl, rfl, _, rfl, _, _, rfl, rfl, by show 2 ≤ sizeLine; decide, fun T2 n2 => ⟨by show 2 ≤ sizeLine; decide, fun T3 n3 => ?_⟩⟩⟩⟩
          obtain ⟨sx, e1, eL, e2⟩ := new3 (oa := .tup [.str "change", .int (j : Nat), .ref q]) (ob := .lst [.ref T1]) (oc := .tup [.int ((i + 1 : Nat)), .int ((j + 1 : Nat))]) n1 nL n2
          have s3 := same_new (o := .tup [.ref L, .ref T2]) n3
          have nLD : L ≠ D := fun e => (by rw [e, same_new n1 _ _ hD] at nL; cases nL)
          obtain ⟨acc, ha, hl, om⟩ := ol.more (same_trans sx s3) (o := ([.change j], i + 1, j + 1)) ⟨L, T2, nLD, upd_same, one_stp (s := .change j) (s3 _ _ eL) ⟨q, hqv0, s3 _ _ e1⟩, s3 _ _ e2⟩
          refine ⟨D, acc, _, rfl, rfl, ha, by rw [hl]; simp only [List.nil_append, List.length_append, List.length_cons, List.length_nil]; omega, ?_⟩
          clear ol hD
          generalize hX : upd _ D _ = H9
          have ol : OptL H os D (([] ++ [([], i + 1, j + 1)]) ++ [([.change j], i + 1, j + 1)]) H9 := by rw [← hX]; exact om
          clear hX om ha
          refine ⟨_, rfl, _, rfl, og, _, rfl, .inl (same_sqL ol.sm hO.lst), _, _, rfl, rfl, true, dT (by rw [lo]; omega), iteT ?_⟩
          obtain ⟨ts, hD, _⟩ := ol.ts
          refine ⟨_, rfl, .inl ⟨rfl, _, SqL.of hD⟩, _, rfl, _, rfl, _, rfl, og, _, ((j : Nat) : Int), .ref q, rfl, rfl, same_sqL ol.sm hO.lst, atI_nat hqv, by show 3 ≤ sizeLine; decide, fun T1 n1 => ⟨by show 1 ≤ sizeLine; decide, fun L nL => ⟨_, rfl, _, rfl, _, _, rfl, rfl, by show 2 ≤ sizeLine; decide, fun T2 n2 => ⟨by show 2 ≤ sizeLine; decide, fun T3 n3 => ?_⟩⟩⟩⟩
          obtain ⟨sx, e1, eL, e2⟩ := new3 (oa := .tup [.str "put", .int (j : Nat), .ref q]) (ob := .lst [.ref T1]) (oc := .tup [.int ((i : Nat)), .int ((j + 1 : Nat))]) n1 nL n2
          have s3 := same_new (o := .tup [.ref L, .ref T2]) n3
          have nLD : L ≠ D := fun e => (by rw [e, same_new n1 _ _ hD] at nL; cases nL)
          obtain ⟨acc, ha, hl, om⟩ := ol.more (same_trans sx s3) (o := ([.put j], i, j + 1)) ⟨L, T2, nLD, upd_same, one_stp (s := .put j) (s3 _ _ eL) ⟨q, hqv0, s3 _ _ e1⟩, s3 _ _ e2⟩
          refine ⟨D, acc, _, rfl, rfl, ha, by rw [hl]; simp only [List.nil_append, List.length_append, List.length_cons, List.length_nil]; omega, ?_⟩
          clear ol hD
          generalize hX : upd _ D _ = H9
          have ol : OptL H os D ((([] ++ [([], i + 1, j + 1)]) ++ [([.change j], i + 1, j + 1)]) ++ [([.put j], i, j + 1)]) H9 := by rw [← hX]; exact om
          clear hX om ha
          refine ⟨_, rfl, _, rfl, pg, _, rfl, .inl (same_sqL ol.sm hP.lst), _, _, rfl, rfl, true, dT (by rw [lp]; omega), iteT ?_⟩
          obtain ⟨ts, hD, _⟩ := ol.ts
          refine ⟨_, rfl, .inl ⟨rfl, _, SqL.of hD⟩, _, rfl, by show 2 ≤ sizeLine; decide, fun T1 n1 => ⟨by show 1 ≤ sizeLine; decide, fun L nL => ⟨_, rfl, _, _, rfl, rfl, _, rfl, by show 2 ≤ sizeLine; decide, fun T2 n2 => ⟨by show 2 ≤ sizeLine; decide, fun T3 n3 => ?_⟩⟩⟩⟩
          obtain ⟨sx, e1, eL, e2⟩ := new3 (oa := .tup [.str "take", .int (j : Nat)]) (ob := .lst [.ref T1]) (oc := .tup [.int ((i + 1 : Nat)), .int ((j : Nat))]) n1 nL n2
          have s3 := same_new (o := .tup [.ref L, .ref T2]) n3
          have nLD : L ≠ D := fun e => (by rw [e, same_new n1 _ _ hD] at nL; cases nL)
          obtain ⟨acc, ha, hl, om⟩ := ol.more (same_trans sx s3) (o := ([.take j], i + 1, j)) ⟨L, T2, nLD, upd_same, one_stp (s := .take j) (s3 _ _ eL) (s3 _ _ e1), s3 _ _ e2⟩
          refine ⟨D, acc, _, rfl, rfl, ha, by rw [hl]; simp only [List.nil_append, List.length_append, List.length_cons, List.length_nil]; omega, ?_⟩
          clear ol hD
          generalize hX : upd _ D _ = H9
          have ol : OptL H os D (((([] ++ [([], i + 1, j + 1)]) ++ [([.change j], i + 1, j + 1)]) ++ [([.put j], i, j + 1)]) ++ [([.take j], i + 1, j)]) H9 := by rw [← hX]; exact om
          clear hX om ha
          exact ⟨_, rfl, k D _ (by rw [ek]; exact ol)⟩
        · have ek : optsK rp ro i j = [([.change j], i + 1, j + 1), ([.put j], i, j + 1), ([.take j], i + 1, j)] := by unfold optsK; rw [if_pos ⟨ci, cj⟩, if_neg he, if_pos cj, if_pos ci]; rfl
          refine ⟨_, rfl, _, rfl, pg, _, rfl, .inl (same_sqL ol.sm hP.lst), _, _, rfl, rfl, true, dT (by rw [lp]; omega), iteT ⟨_, rfl, _, rfl, og, _, rfl, .inl (same_sqL ol.sm hO.lst), _, _, rfl, rfl, true, dT (by rw [lo]; omega), iteT ?_⟩⟩
          refine ⟨_, rfl, _, rfl, pg, _, ((i : Nat) : Int), .ref qp, rfl, rfl, same_sqL ol.sm hP.lst, atI_nat hpv, _, rfl, _, rfl, og, _, ((j : Nat) : Int), .ref q, rfl, rfl, same_sqL ol.sm hO.lst, atI_nat hqv, ?_⟩
          refine ⟨_, _, .tup (same_sqT ol.sm hpr) (dp_strs _), .tup (same_sqT ol.sm hqr) (dp_strs _), shape_row (gP.rows _ hpm), shape_row (gO.rows _ hqm), ?_⟩
          rw [eqv_row]
          refine ⟨false, dF he, iteF ?_⟩
          obtain ⟨ts, hD, _⟩ := ol.ts
          refine ⟨_, rfl, .inl ⟨rfl, _, SqL.of hD⟩, _, rfl, _, rfl, _, rfl, og, _, ((j : Nat) : Int), .ref q, rfl, rfl, same_sqL ol.sm hO.lst, atI_nat hqv, by show 3 ≤ sizeLine; decide, fun T1 n1 => ⟨by show 1 ≤ sizeLine; decide, fun L nL => ⟨_, rfl, _, _, rfl, rfl, _, rfl, _, _, rfl, rfl, by show 2 ≤ sizeLine; decide, fun T2 n2 => ⟨by show 2 ≤ sizeLine; decide, fun T3 n3 => ?_⟩⟩⟩⟩
          obtain ⟨sx, e1, eL, e2⟩ := new3 (oa := .tup [.str "change", .int (j : Nat), .ref q]) (ob := .lst [.ref T1]) (oc := .tup [.int ((i + 1 : Nat)), .int ((j + 1 : Nat))]) n1 nL n2
          have s3 := same_new (o := .tup [.ref L, .ref T2]) n3
          have nLD : L ≠ D := fun e => (by rw [e, same_new n1 _ _ hD] at nL; cases nL)
          obtain ⟨acc, ha, hl, om⟩ := ol.more (same_trans sx s3) (o := ([.change j], i + 1, j + 1)) ⟨L, T2, nLD, upd_same, one_stp (s := .change j) (s3 _ _ eL) ⟨q, hqv0, s3 _ _ e1⟩, s3 _ _ e2⟩
          refine ⟨D, acc, _, rfl, rfl, ha, by rw [hl]; simp only [List.nil_append, List.length_append, List.length_cons, List.length_nil]; omega, ?_⟩
          clear ol hD
          generalize hX : upd _ D _ = H9
          have ol : OptL H os D ([] ++ [([.change j], i + 1, j + 1)]) H9 := by rw [← hX]; exact om
          clear hX om ha
          refine ⟨_, rfl, _, rfl, og, _, rfl, .inl (same_sqL ol.sm hO.lst), _, _, rfl, rfl, true, dT (by rw [lo]; omega), iteT ?_⟩
          obtain ⟨ts, hD, _⟩ := ol.ts
          refine ⟨_, rfl, .inl ⟨rfl, _, SqL.of hD⟩, _, rfl, _, rfl, _, rfl, og, _, ((j : Nat) : Int), .ref q, rfl, rfl, same_sqL ol.sm hO.lst, atI_nat hqv, by show 3 ≤ sizeLine; decide, fun T1 n1 => ⟨by show 1 ≤ sizeLine; decide, fun L nL => ⟨_, rfl, _, rfl, _, _, rfl, rfl, by show 2 ≤ sizeLine; decide, fun T2 n2 => ⟨by show 2 ≤ sizeLine; decide, fun T3 n3 => ?_⟩⟩⟩⟩
          obtain ⟨sx, e1, eL, e2⟩ := new3 (oa := .tup [.str "put", .int (j : Nat), .ref q]) (ob := .lst [.ref T1]) (oc := .tup [.int ((i : Nat)), .int ((j + 1 : Nat))]) n1 nL n2
          have s3 := same_new (o := .tup [.ref L, .ref T2]) n3
          have nLD : L ≠ D := fun e => (by rw [e, same_new n1 _ _ hD] at nL; cases nL)
          obtain ⟨acc, ha, hl, om⟩ := ol.more (same_trans sx s3) (o := ([.put j], i, j + 1)) ⟨L, T2, nLD, upd_same, one_stp (s := .put j) (s3 _ _ eL) ⟨q, hqv0, s3 _ _ e1⟩, s3 _ _ e2⟩
          refine ⟨D, acc, _, rfl, rfl, ha, by rw [hl]; simp only [List.nil_append, List.length_append, List.length_cons, List.length_nil]; omega, ?_⟩
          clear ol hD
          generalize hX : upd _ D _ = H9
          have ol : OptL H os D (([] ++ [([.change j], i + 1, j + 1)]) ++ [([.put j], i, j + 1)]) H9 := by rw [← hX]; exact om
          clear hX om ha
          refine ⟨_, rfl, _, rfl, pg, _, rfl, .inl (same_sqL ol.sm hP.lst), _, _, rfl, rfl, true, dT (by rw [lp]; omega), iteT ?_⟩
          obtain ⟨ts, hD, _⟩ := ol.ts
          refine ⟨_, rfl, .inl ⟨rfl, _, SqL.of hD⟩, _, rfl, by show 2 ≤ sizeLine; decide, fun T1 n1 => ⟨by show 1 ≤ sizeLine; decide, fun L nL => ⟨_, rfl, _, _, rfl, rfl, _, rfl, by show 2 ≤ sizeLine; decide, fun T2 n2 => ⟨by show 2 ≤ sizeLine; decide, fun T3 n3 => ?_⟩⟩⟩⟩
          obtain ⟨sx, e1, eL, e2⟩ := new3 (oa := .tup [.str "take", .int (j : Nat)]) (ob := .lst [.ref T1]) (oc := .tup [.int ((i + 1 : Nat)), .int ((j : Nat))]) n1 nL n2
          have s3 := same_new (o := .tup [.ref L, .ref T2]) n3
          have nLD : L ≠ D := fun e => (by rw [e, same_new n1 _ _ hD] at nL; cases nL)
          obtain ⟨acc, ha, hl, om⟩ := ol.more (same_trans sx s3) (o := ([.take j], i + 1, j)) ⟨L, T2, nLD, upd_same, one_stp (s := .take j) (s3 _ _ eL) (s3 _ _ e1), s3 _ _ e2⟩
          refine ⟨D, acc, _, rfl, rfl, ha, by rw [hl]; simp only [List.nil_append, List.length_append, List.length_cons, List.length_nil]; omega, ?_⟩
          clear ol hD
          generalize hX : upd _ D _ = H9
          have ol : OptL H os D ((([] ++ [([.change j], i + 1, j + 1)]) ++ [([.put j], i, j + 1)]) ++ [([.take j], i + 1, j)]) H9 := by rw [← hX]; exact om
          clear hX om ha
          exact ⟨_, rfl, k D _ (by rw [ek]; exact ol)⟩
      · have ek : optsK rp ro i j = [([.take j], i + 1, j)] := by unfold optsK; rw [if_neg fun z => cj z.2, if_neg cj, if_pos ci]; rfl
        refine ⟨_, rfl, _, rfl, pg, _, rfl, .inl (same_sqL ol.sm hP.lst), _, _, rfl, rfl, true, dT (by rw [lp]; omega), iteT ⟨_, rfl, _, rfl, og, _, rfl, .inl (same_sqL ol.sm hO.lst), _, _, rfl, rfl, false, dF (by rw [lo]; omega), iteF ?_⟩⟩
        refine ⟨_, rfl, _, rfl, og, _, rfl, .inl (same_sqL ol.sm hO.lst), _, _, rfl, rfl, false, dF (by rw [lo]; omega), iteF ?_⟩
        refine ⟨_, rfl, _, rfl, pg, _, rfl, .inl (same_sqL ol.sm hP.lst), _, _, rfl, rfl, true, dT (by rw [lp]; omega), iteT ?_⟩
        obtain ⟨ts, hD, _⟩ := ol.ts
        refine ⟨_, rfl, .inl ⟨rfl, _, SqL.of hD⟩, _, rfl, by show 2 ≤ sizeLine; decide, fun T1 n1 => ⟨by show 1 ≤ sizeLine; decide, fun L nL => ⟨_, rfl, _, _, rfl, rfl, _, rfl, by show 2 ≤ sizeLine; decide, fun T2 n2 => ⟨by show 2 ≤ sizeLine; decide, fun T3 n3 => ?_⟩⟩⟩⟩
        obtain ⟨sx, e1, eL, e2⟩ := new3 (oa := .tup [.str "take", .int (j : Nat)]) (ob := .lst [.ref T1]) (oc := .tup [.int ((i + 1 : Nat)), .int ((j : Nat))]) n1 nL n2
        have s3 := same_new (o := .tup [.ref L, .ref T2]) n3
        have nLD : L ≠ D := fun e => (by rw [e, same_new n1 _ _ hD] at nL; cases nL)
        obtain ⟨acc, ha, hl, om⟩ := ol.more (same_trans sx s3) (o := ([.take j], i + 1, j)) ⟨L, T2, nLD, upd_same, one_stp (s := .take j) (s3 _ _ eL) (s3 _ _ e1), s3 _ _ e2⟩
        refine ⟨D, acc, _, rfl, rfl, ha, by rw [hl]; simp only [List.nil_append, List.length_append, List.length_cons, List.length_nil]; omega, ?_⟩
        clear ol hD
        generalize hX : upd _ D _ = H9
        have ol : OptL H os D ([] ++ [([.take j], i + 1, j)]) H9 := by rw [← hX]; exact om
        clear hX om ha
        exact ⟨_, rfl, k D _ (by rw [ek]; exact ol)⟩
    · have ek0 : (if i < rp.length ∧ j < ro.length then (if rp.getD i [] = ro.getD j [] then [([], i + 1, j + 1)] else []) ++ [([Stp.change j], i + 1, j + 1)] else []) = ([] : List Opt) := if_neg fun z => ci z.1
      by_cases cj : j < ro.length
      · obtain ⟨q, hqv0, hqr⟩ : ∃ q, os[j]? = some q ∧ SqT K H q (sV (ro.getD j [])) := ⟨os[j]'(by have := hO.len; omega), List.getElem?_eq_getElem _, hO.row j _ _ (List.getElem?_eq_getElem _) (getD_get cj)⟩
        have hqv : (os.map V.ref)[j]? = some (.ref q) := by rw [List.getElem?_map, hqv0]; rfl
        have ek : optsK rp ro i j = [([.put j], i, j + 1)] := by unfold optsK; rw [ek0, if_pos cj, if_neg ci]; rfl
        refine ⟨_, rfl, _, rfl, pg, _, rfl, .inl (same_sqL ol.sm hP.lst), _, _, rfl, rfl, false, dF (by rw [lp]; omega), iteF ?_⟩
        refine ⟨_, rfl, _, rfl, og, _, rfl, .inl (same_sqL ol.sm hO.lst), _, _, rfl, rfl, true, dT (by rw [lo]; omega), iteT ?_⟩
        obtain ⟨ts, hD, _⟩ := ol.ts
        refine ⟨_, rfl, .inl ⟨rfl, _, SqL.of hD⟩, _, rfl, _, rfl, _, rfl, og, _, ((j : Nat) : Int), .ref q, rfl, rfl, same_sqL ol.sm hO.lst, atI_nat hqv, by show 3 ≤ sizeLine; decide, fun T1 n1 => ⟨by show 1 ≤ sizeLine; decide, fun L nL => ⟨_, rfl, _, rfl, _, _, rfl, rfl, by show 2 ≤ sizeLine; decide, fun T2 n2 => ⟨by show 2 ≤ sizeLine; decide, fun T3 n3 => ?_⟩⟩⟩⟩
        obtain ⟨sx, e1, eL, e2⟩ := new3 (oa := .tup [.str "put", .int (j : Nat), .ref q]) (ob := .lst [.ref T1]) (oc := .tup [.int ((i : Nat)), .int ((j + 1 : Nat))]) n1 nL n2
        have s3 := same_new (o := .tup [.ref L, .ref T2]) n3
        have nLD : L ≠ D := fun e => (by rw [e, same_new n1 _ _ hD] at nL; cases nL)
        obtain ⟨acc, ha, hl, om⟩ := ol.more (same_trans sx s3) (o := ([.put j], i, j + 1)) ⟨L, T2, nLD, upd_same, one_stp (s := .put j) (s3 _ _ eL) ⟨q, hqv0, s3 _ _ e1⟩, s3 _ _ e2⟩
        refine ⟨D, acc, _, rfl, rfl, ha, by rw [hl]; simp only [List.nil_append, List.length_append, List.length_cons, List.length_nil]; omega, ?_⟩
        clear ol hD
        generalize hX : upd _ D _ = H9
        have ol : OptL H os D ([] ++ [([.put j], i, j + 1)]) H9 := by rw [← hX]; exact om
        clear hX om ha
        refine ⟨_, rfl, _, rfl, pg, _, rfl, .inl (same_sqL ol.sm hP.lst), _, _, rfl, rfl, false, dF (by rw [lp]; omega), iteF ?_⟩
        exact ⟨_, rfl, k D _ (by rw [ek]; exact ol)⟩
      · have ek : optsK rp ro i j = [] := by unfold optsK; rw [ek0, if_neg cj, if_neg ci]; rfl
        refine ⟨_, rfl, _, rfl, pg, _, rfl, .inl (same_sqL ol.sm hP.lst), _, _, rfl, rfl, false, dF (by rw [lp]; omega), iteF ?_⟩
        refine ⟨_, rfl, _, rfl, og, _, rfl, .inl (same_sqL ol.sm hO.lst), _, _, rfl, rfl, false, dF (by rw [lo]; omega), iteF ?_⟩
        refine ⟨_, rfl, _, rfl, pg, _, rfl, .inl (same_sqL ol.sm hP.lst), _, _, rfl, rfl, false, dF (by rw [lp]; omega), iteF ?_⟩
        exact ⟨_, rfl, k D _ (by rw [ek]; exact ol)⟩
end
end TGK

namespace TGK
open TG RT
open PySem PySem.Spec PyProof.Rows L2 NdefX GenW Gx Lv
/-! ### the plan, told by what goes from a place -/
noncomputable abbrev fromK (P O : List RT.Row) (o : Opt) : List Stp := o.1 ++ plan (P.drop o.2.1) (O.drop o.2.2) o.2.2
theorem pick_one (x : List Stp) : pickS [x] = x := by
  unfold pickS
  have := (bestLen_first (fun i => ([x].getD i []).length) (n := 1) (by omega)).1
  have e : bestLen (fun i => ([x].getD i []).length) [x].length = 0 := by
    show bestLen (fun i => ([x].getD i []).length) 1 = 0
    omega
  rw [e]
  rfl
theorem drop_get {l : List RT.Row} {i : Nat} (h : i < l.length) : l.drop i = l.getD i [] :: l.drop (i + 1) := by
  rw [List.drop_eq_getElem_cons h, List.getD_eq_getElem?_getD, List.getElem?_eq_getElem h]
  rfl
theorem plan_at (P O : List RT.Row) {i j : Nat} (hi : i ≤ P.length) (hj : j ≤ O.length) : pickS ((optsK P O i j).map (fromK P O)) = plan (P.drop i) (O.drop j) j := by
  by_cases ci : i < P.length
  · by_cases cj : j < O.length
    · have e1 := drop_get ci
      have e2 := drop_get cj
      rw [e1, e2, plan_cons, ← e1, ← e2]
      unfold optsK
      by_cases he : P.getD i [] = O.getD j []
      · rw [if_pos ⟨ci, cj⟩, if_pos he, if_pos cj, if_pos ci, if_pos he]
        rfl
      · rw [if_pos ⟨ci, cj⟩, if_neg he, if_pos cj, if_pos ci, if_neg he]
        rfl
    · have e1 := drop_get ci
      have e2 : O.drop j = [] := List.drop_eq_nil_of_le (by omega)
      unfold optsK
      rw [if_neg fun z => cj z.2, if_neg cj, if_pos ci]
      show pickS [fromK P O ([.take j], i + 1, j)] = _
      rw [pick_one, e1, e2, plan]
      show Stp.take j :: plan (P.drop (i + 1)) (O.drop j) j = _
      rw [e2]
  · have e1 : P.drop i = [] := List.drop_eq_nil_of_le (by omega)
    by_cases cj : j < O.length
    · have e2 := drop_get cj
      unfold optsK
      rw [if_neg fun z => ci z.1, if_pos cj, if_neg ci]
      show pickS [fromK P O ([.put j], i, j + 1)] = _
      rw [pick_one, e1, e2, plan]
      show Stp.put j :: plan (P.drop i) (O.drop (j + 1)) (j + 1) = _
      rw [e1]
    · have e2 : O.drop j = [] := List.drop_eq_nil_of_le (by omega)
      unfold optsK
      rw [if_neg fun z => ci z.1, if_neg cj, if_neg ci, e1, e2, plan]
      rfl
theorem plan_le (P O : List RT.Row) (j : Nat) (hP : P.length ≤ 30) (hO : O.length ≤ 30) : (plan P O j).length ≤ 30 := by
  rw [plan_len _ P O j (Nat.le_refl _)]
  have := (ed_le _ P O (Nat.le_refl _)).1
  omega
theorem opts_le (P O : List RT.Row) (i j : Nat) : (optsK P O i j).length ≤ 4 := by
  unfold optsK
  split <;> split <;> split <;> (try split) <;> simp
theorem opts_in {P O : List RT.Row} {i j : Nat} {o : Opt} (h : o ∈ optsK P O i j) : o.1.length ≤ 1 ∧ ((o.2.1 = i ∧ o.2.2 = j + 1) ∨ (o.2.1 = i + 1 ∧ (o.2.2 = j ∨ o.2.2 = j + 1))) ∧ (o.2.1 = i + 1 → i < P.length) ∧ (o.2.2 = j + 1 → j < O.length) := by
  unfold optsK at h
  rcases List.mem_append.mp h with h | h
  · rcases List.mem_append.mp h with h | h
    · by_cases c : i < P.length ∧ j < O.length
      · rw [if_pos c] at h
        rcases List.mem_append.mp h with h | h
        · by_cases e : P.getD i [] = O.getD j []
          · rw [if_pos e, List.mem_singleton] at h
            subst h
            exact ⟨by simp, .inr ⟨rfl, .inr rfl⟩, fun _ => c.1, fun _ => c.2⟩
          · rw [if_neg e] at h
            cases h
        · rw [List.mem_singleton] at h
          subst h
          exact ⟨by simp, .inr ⟨rfl, .inr rfl⟩, fun _ => c.1, fun _ => c.2⟩
      · rw [if_neg c] at h
        cases h
    · by_cases c : j < O.length
      · rw [if_pos c, List.mem_singleton] at h
        subst h
        exact ⟨by simp, .inl ⟨rfl, rfl⟩, fun z => (by simp at z), fun _ => c⟩
      · rw [if_neg c] at h
        cases h
  · by_cases c : i < P.length
    · rw [if_pos c, List.mem_singleton] at h
      subst h
      exact ⟨by simp, .inr ⟨rfl, .inl rfl⟩, fun _ => c, fun z => (by simp at z)⟩
    · rw [if_neg c] at h
      cases h
theorem putK_len {κ : Type} [DecidableEq κ] (kvs : List (κ × V)) (k : κ) (v : V) : (putK kvs k v).length ≤ kvs.length + 1 := by
  unfold putK
  split
  · rw [List.length_map]; omega
  · rw [List.length_append]; exact Nat.le_refl _
/-! ### the plans found so far -/
abbrev ky (i j : Nat) : List Key := [.inl (i : Nat), .inl (j : Nat)]
structure PlS (H1 : Hp) (os : List Addr) (P O : List RT.Row) (D : Addr) (n : Nat) (dn : Nat → Nat → Prop) (H : Hp) : Prop where
  sm : Same H1 H
  nD : H1 D = none
  dt : ∃ kvs : List (List Key × V), H D = some (.dT kvs) ∧ kvs.length ≤ n ∧ ∀ i j, dn i j → ∃ L, valV kvs (ky i j) = some (.ref L) ∧ H1 L = none ∧ StpsA H os L (plan (P.drop i) (O.drop j) j)
theorem PlS.start {H1 : Hp} {os : List Addr} {P O : List RT.Row} {D : Addr} {dn : Nat → Nat → Prop} (n : H1 D = none) (h : ∀ i j, ¬ dn i j) : PlS H1 os P O D 0 dn (upd H1 D (.dT [])) :=
  ⟨same_new n, n, [], upd_same, Nat.le_refl _, fun i j z => (h i j z).elim⟩
theorem PlS.grow {H1 H H' : Hp} {os : List Addr} {P O : List RT.Row} {D : Addr} {n : Nat} {dn : Nat → Nat → Prop} (p : PlS H1 os P O D n dn H) (x : Same H H') : PlS H1 os P O D n dn H' := by
  obtain ⟨kvs, h1, h2, h3⟩ := p.dt
  exact ⟨same_trans p.sm x, p.nD, kvs, x _ _ h1, h2, fun i j z => by
    obtain ⟨L, e1, e0, e2⟩ := h3 i j z
    exact ⟨L, e1, e0, e2.same x⟩⟩
theorem PlS.mono {H1 H : Hp} {os : List Addr} {P O : List RT.Row} {D : Addr} {n m : Nat} {dn dm : Nat → Nat → Prop} (p : PlS H1 os P O D n dn H) (h : n ≤ m) (hd : ∀ i j, dm i j → dn i j) : PlS H1 os P O D m dm H := by
  obtain ⟨kvs, h1, h2, h3⟩ := p.dt
  exact ⟨p.sm, p.nD, kvs, h1, by omega, fun i j z => h3 i j (hd i j z)⟩
theorem PlS.put {H1 H : Hp} {os : List Addr} {P O : List RT.Row} {D L t : Addr} {n i j : Nat} {dn dm : Nat → Nat → Prop} (p : PlS H1 os P O D n dn H) (hL : StpsA H os L (plan (P.drop i) (O.drop j) j)) (nL : H1 L = none) (ht : H t = some (.tup [.int (i : Nat), .int (j : Nat)])) (hn : n < sizeLine)
    (hd : ∀ a b, dm a b → dn a b ∨ (a = i ∧ b = j)) : ∃ H', DPut H D (.ref t) (.ref L) H' ∧ PlS H1 os P O D (n + 1) dm H' := by
  obtain ⟨kvs, h1, h2, h3⟩ := p.dt
  have bt : Bt D H (upd H D (.dT (putK kvs (ky i j) (.ref L)))) := bt_upd fun xs h => by rw [h1] at h; cases h
  have ld : ∀ {L : Addr} {l : List Stp}, StpsA H os L l → L ≠ D := fun {L l} h e => by
    obtain ⟨ts, e1, _⟩ := h
    rw [e, h1] at e1
    cases e1
  refine ⟨_, DPut.t (k := ky i j) h1 ht (by omega), fun b u e => by rw [upd_ne (ne_of_none e p.nD)]; exact p.sm b u e, p.nD, _, upd_same, Nat.le_trans (putK_len _ _ _) (by omega), fun a b z => ?_⟩
  by_cases e : a = i ∧ b = j
  · obtain ⟨rfl, rfl⟩ := e
    exact ⟨L, by rw [valV_put, if_pos rfl], nL, hL.bt bt (ld hL)⟩
  · rcases hd a b z with z | z
    · obtain ⟨M, e1, e0, e2⟩ := h3 a b z
      refine ⟨M, ?_, e0, e2.bt bt (ld e2)⟩
      rw [valV_put, if_neg, e1]
      intro q
      apply e
      injection q with q1 q2
      injection q2 with q2 _
      injection q1 with q1
      injection q2 with q2
      exact ⟨Int.ofNat.inj q1, Int.ofNat.inj q2⟩
    · exact (e z).elim
theorem StpsA.raw {H : Hp} {os : List Addr} {A : Addr} {l : List Stp} (hA : StpsA H os A l) : ∃ xs, H A = some (.lst xs) ∧ xs.length = l.length := by
  obtain ⟨ts, a1, a2, _⟩ := hA
  exact ⟨_, a1, by rw [List.length_map, a2]⟩
theorem StpsA.cat {H : Hp} {os : List Addr} {A B D : Addr} {l m : List Stp} (hA : StpsA H os A l) (hB : StpsA H os B m) (nD : H D = none) : ∃ xs ys, H A = some (.lst xs) ∧ H B = some (.lst ys) ∧ xs.length = l.length ∧ ys.length = m.length ∧ StpsA (upd H D (.lst (xs ++ ys))) os D (l ++ m) := by
  obtain ⟨ts, a1, a2, a3⟩ := hA
  obtain ⟨us, b1, b2, b3⟩ := hB
  refine ⟨_, _, a1, b1, by rw [List.length_map, a2], by rw [List.length_map, b2], ts ++ us, by rw [upd_same, List.map_append], by rw [List.length_append, List.length_append, a2, b2], fun k t s e1 e2 => ?_⟩
  have x : Same H (upd H D (.lst (ts.map V.ref ++ us.map V.ref))) := same_new nD
  by_cases hk : k < ts.length
  · rw [List.getElem?_append_left hk] at e1
    rw [List.getElem?_append_left (by rw [← a2]; exact hk)] at e2
    exact (a3 k t s e1 e2).same x
  · rw [List.getElem?_append_right (by omega)] at e1
    rw [List.getElem?_append_right (by omega)] at e2
    rw [a2] at e1
    exact (b3 _ t s e1 e2).same x
/-- the lists found -/
structure FoundL (H0 : Hp) (os : List Addr) (F : Addr) (ls : List (List Stp)) (H : Hp) : Prop where
  sm : Same H0 H
  nF : H0 F = none
  ts : ∃ ts : List Addr, H F = some (.lst (ts.map V.ref)) ∧ ts.length = ls.length ∧ ∀ (k : Nat) (t : Addr) (l : List Stp), ts[k]? = some t → ls[k]? = some l → t ≠ F ∧ H0 t = none ∧ StpsA H os t l
theorem FoundL.start {H0 : Hp} {os : List Addr} {F : Addr} (n : H0 F = none) : FoundL H0 os F [] (upd H0 F (.lst [])) := ⟨same_new n, n, [], upd_same, rfl, fun j t v h => by cases h⟩
theorem FoundL.more {H0 H H1 : Hp} {os : List Addr} {F t : Addr} {ls : List (List Stp)} {l : List Stp} (o : FoundL H0 os F ls H) (x : Same H H1) (nt : H t = none) (ht : StpsA H1 os t l) :
    ∃ acc, H1 F = some (.lst acc) ∧ acc.length = ls.length ∧ FoundL H0 os F (ls ++ [l]) (upd H1 F (.lst (acc ++ [.ref t]))) := by
  obtain ⟨ts, h1, h2, h3⟩ := o.ts
  have hF := x _ _ h1
  have bt : Bt F H1 (upd H1 F (.lst (ts.map V.ref ++ [.ref t]))) := bt_upd fun xs h => by rw [hF] at h; cases h
  have tF : t ≠ F := fun e => by rw [e, h1] at nt; cases nt
  refine ⟨_, hF, by rw [List.length_map, h2], fun b u e => by rw [upd_ne (ne_of_none e o.nF)]; exact x _ _ (o.sm b u e), o.nF, ts ++ [t], by rw [upd_same]; simp, by rw [List.length_append, List.length_append, h2]; rfl, fun j s u e1 e2 => ?_⟩
  by_cases hj : j < ts.length
  · rw [List.getElem?_append_left hj] at e1
    rw [List.getElem?_append_left (by rw [← h2]; exact hj)] at e2
    obtain ⟨q1, q0, q2⟩ := h3 j s u e1 e2
    exact ⟨q1, q0, (q2.same x).bt bt q1⟩
  · have hl := (List.getElem?_eq_some_iff.mp e1).1
    rw [List.length_append, List.length_singleton] at hl
    have ej : j = ts.length := by omega
    subst ej
    rw [List.getElem?_append_right (Nat.le_refl _), Nat.sub_self] at e1
    rw [h2, List.getElem?_append_right (Nat.le_refl _), Nat.sub_self] at e2
    cases e1
    cases e2
    exact ⟨tF, same_old o.sm nt, ht.bt bt tF⟩
section
variable {P : Program} {w : World} {K : PySem.W.Frag} {mg : Str → Option Value} {base : Heap} {cs : List (Addr × Addr)}
def spRoute (K : PySem.W.Frag) (cs : List (Addr × Addr)) : Sp := fun vs H Q _ => ∃ (pg og : Addr) (as os : List Addr) (rp ro : List RT.Row), vs = [.ref pg, .ref og] ∧ Tabs cs H ∧ PageAt K H pg as rp ∧ PageAt K H og os ro ∧ PgOk rp ∧ PgOk ro ∧
  ∀ L H', Ex cs H H' → H L = none → StpsA H' os L (plan rp ro 0) → Q (.ref L) H'
abbrev nmRoute : List Str := ["page", "other", "plans", "here", "there", "found", "steps", "rest"]
theorem sc_route : FnScope nmRoute ["page", "other"] (defScope s_route) := ⟨rfl, rfl, rfl, by decide +kernel, rfl, by decide +kernel, by decide +kernel⟩
theorem ok_route {f gC gW : Addr} {fd fdC fdW : FuncData} (T : Txt mg) (hmn : mg "min" = none) (F : Fun K "route" "route" s_route f fd)
    (C : FnOk P w K mg base CX0 11 gC fdC ["page"] (spCheck K cs)) (kC : PySem.W.keepIn K (.ref gC) = true) (bC : Binds K fdC ["page"] []) (mC : mg "check_page" = some (.ref gC))
    (W : FnOk P w K mg base CX0 1 gW fdW ["page", "other", "here", "there"] (spWays K)) (kW : PySem.W.keepIn K (.ref gW) = true) (bW : Binds K fdW ["page", "other", "here", "there"] []) (mW : mg "ways" = some (.ref gW)) :
    FnOk P w K mg base CX0 12 f fd ["page", "other"] (spRoute K cs) := by
  refine F.ok sc_route (fun vs H Q E h => ?_) (fun cdv A outer s H vs Q E hr h => ?_)
  · obtain ⟨pg, og, _, _, _, _, rfl, _⟩ := h
    rfl
  · obtain ⟨pg, og, as, os, rp, ro, rfl, hT, hP, hO, gP, gO, k⟩ := h
    have nd := sc_route.nd
    have hu := hr.units
    have r1 : Room 1 _ := hr.mono (by decide)
    have r11 : Room 11 _ := hr.mono (by decide)
    have szl : (9000 : Nat) < sizeLine := by decide
    have hu1 : (A.deeper (envOfC (Str.ofString "route") (defScope s_route) s.heap.objs.size f cdv)).units + 1 < cLine := by omega
    refine ⟨_, (pss_cons (ps_expr (pe_call C r11 (by rfl) mC kC bC .nil pass0 (pa_cons (pv 0) pa_nil)))
      (pss_cons (ps_expr (pe_call C r11 (by rfl) mC kC bC .nil pass0 (pa_cons (pv 1) pa_nil)))
      (pss_cons (ps_set (i := 2) nd rfl (.inr rfl) pe_dnewT)
      (pss_cons (ps_for PassesOwn.never rfl (pi_range3 (by rfl) T.range (pa_cons (pe_callB call_len_seq (by rfl) T.len PySem.boot_len (pa_cons (pv 0) pa_nil)) (pa_cons (pe_un un_neg pe_int) (pa_cons (pe_un un_neg pe_int) pa_nil)))) (pg_name (i := 3) nd rfl (.inl rfl))
      (pss_one (ps_for PassesOwn.never rfl (pi_range3 (by rfl) T.range (pa_cons (pe_callB call_len_seq (by rfl) T.len PySem.boot_len (pa_cons (pv 1) pa_nil)) (pa_cons (pe_un un_neg pe_int) (pa_cons (pe_un un_neg pe_int) pa_nil)))) (pg_name (i := 4) nd rfl (.inl rfl))
      (pss_cons (ps_setLc (i := 5) (own := [("steps", 6), ("rest", 7)]) (g := gTup K 2 (gCons (gName 6) (gCons (gName 7) gNil))) (tt := tYes) rfl nd rfl rfl (sw_true rfl rfl rfl (by decide +kernel)) (pi_list (pe_call W r1 (by rfl) mW kW bW .nil pass0 (pa_cons (pv 0) (pa_cons (pv 1) (pa_cons (pv 3) (pa_cons (pv 4) pa_nil)))))) (blkOk_by (own := [("steps", 6), ("rest", 7)]) (N := nmRoute) (sc := defScope s_route) (by decide +kernel)) (fun _ _ _ _ _ => pg_tup rfl (pgs_cons (pg_name (i := 6) nd rfl (Or.inl rfl)) (pgs_cons (pg_name (i := 7) nd rfl (Or.inl rfl)) pgs_nil))) (fun _ _ _ _ _ => pts_nil) (fun _ _ _ _ _ => (pe_op op_cat (pv 6) (pe_dget hu1 (pv 2) (pv 7) (fun _ _ => rfl)))))
      (pss_one (ps_dput hu1 (pv 2) (pe_tup (pa_cons (pv 3) (pa_cons (pv 4) pa_nil))) (pe_minLen rfl (by rfl) hmn (by rfl) T.len (pv 5) (pe_lst pa_nil)) rfl))))))
      (pss_one (ps_ret (pe_dget hu1 (pv 2) (pe_tup (pa_cons pe_int (pa_cons pe_int pa_nil))) (fun _ _ => rfl)))))))), ?_⟩
    refine ⟨_, rfl, pg, as, rp, rfl, hT, hP, gP, fun Ha xa => ?_⟩
    refine ⟨_, rfl, og, os, ro, rfl, xa.tab, hO.ex xa, gO, fun H1 xb => ?_⟩
    have x1 := xa.trans xb
    have hP := hP.ex x1
    have hO := hO.ex x1
    clear xa xb
    have lp : (as.map V.ref).length = rp.length := by rw [List.length_map, hP.len]
    have lo : (os.map V.ref).length = ro.length := by rw [List.length_map, hO.len]
    have hR : ∀ n : Nat, n ≤ 30 → RgC ((n : Nat) : Int) (-1) (-1) (n + 1) := fun n hn => by
      have := RgC.neg (i := ((n : Nat) : Int)) (j := -1) (by omega) (by omega) (by omega) (by omega)
      have e : (((n : Nat) : Int) - (-1)).toNat = n + 1 := by omega
      rw [e] at this
      exact this
    have p30 := gP.len
    have o30 := gO.len
    refine fun D nD => ?_
    have o0 := PlS.start (os := os) (P := rp) (O := ro) (dn := fun i j => i ≤ rp.length ∧ j ≤ ro.length ∧ rp.length < i + 0) nD (fun i j z => by omega)
    generalize upd H1 D (.dT []) = H2 at o0 ⊢
    refine ⟨_, rfl, pg, _, rfl, .inl (same_sqL o0.sm hP.lst), _, rfl, _, rfl, _, _, _, rp.length + 1, rfl, by rw [lp]; exact hR _ p30, for_rangeC (n := rp.length + 1) (fun a σ H' => PlS H1 os rp ro D (a * 31) (fun i j => i ≤ rp.length ∧ j ≤ ro.length ∧ rp.length < i + a) H' ∧ ∃ c3 c4 c5 c6 c7 : Option V, σ = [some (.ref pg), some (.ref og), some (.ref D), c3, c4, c5, c6, c7])
      ⟨o0.mono (by omega) fun i j z => z, none, none, none, none, none, rfl⟩ ?_ ?_⟩
    rotate_left
    · rintro σ H3 ⟨o1, c3, c4, c5, c6, c7, rfl⟩
      refine ⟨_, rfl, by show 2 ≤ sizeLine; decide, fun T2 nT2 => ?_⟩
      have o2 := o1.grow (same_new (o := .tup [.int 0, .int 0]) nT2)
      obtain ⟨kvs, h1, h2, h3⟩ := o2.dt
      obtain ⟨L, e1, e0, e2⟩ := h3 0 0 ⟨Nat.zero_le _, Nat.zero_le _, by omega⟩
      exact ⟨D, .ref L, rfl, by rw [← e1]; exact DGet.t h1 upd_same, k L _ (x1.trans (ex_same x1.tab o2.sm)) (x1.old _ e0) e2⟩
    rintro a σ H3 ha ⟨o1, c3, c4, c5, c6, c7, rfl⟩
    have e0 : (((as.map V.ref).length : Nat) : Int) + ((a : Nat) : Int) * (-1) = ((rp.length - a : Nat) : Int) := by rw [lp]; omega
    rw [e0]
    generalize hi : rp.length - a = i
    have hia : rp.length = i + a := by omega
    refine ⟨_, rfl, og, _, rfl, .inl (same_sqL o1.sm hO.lst), _, rfl, _, rfl, _, _, _, ro.length + 1, rfl, by rw [lo]; exact hR _ o30, for_rangeC (n := ro.length + 1) (fun b σ H' => PlS H1 os rp ro D (a * 31 + b) (fun i' j' => i' ≤ rp.length ∧ j' ≤ ro.length ∧ (rp.length < i' + a ∨ (rp.length = i' + a ∧ ro.length < j' + b))) H' ∧ ∃ c4 c5 c6 c7 : Option V, σ = [some (.ref pg), some (.ref og), some (.ref D), some (.int ((i : Nat) : Int)), c4, c5, c6, c7])
      ⟨o1.mono (by omega) fun i' j' z => ⟨z.1, z.2.1, by omega⟩, _, _, _, _, rfl⟩ ?_ ?_⟩
    rotate_left
    · rintro σ H4 ⟨o2, c4, c5, c6, c7, rfl⟩
      exact ⟨o2.mono (by omega) fun i' j' z => ⟨z.1, z.2.1, by omega⟩, _, _, _, _, _, rfl⟩
    clear o1
    rintro b σ H4 hb ⟨o1, c4, c5, c6, c7, rfl⟩
    have e0 : (((os.map V.ref).length : Nat) : Int) + ((b : Nat) : Int) * (-1) = ((ro.length - b : Nat) : Int) := by rw [lo]; omega
    rw [e0]
    generalize hj : ro.length - b = j
    have hjb : ro.length = j + b := by omega
    refine ⟨_, rfl, _, rfl, _, rfl, _, rfl, pg, og, as, os, rp, ro, i, j, rfl, hP.same o1.sm, hO.same o1.sm, gP, gO, by omega, by omega, fun F0 H5 ol => ?_⟩
    obtain ⟨ts, w1, w2, w3⟩ := ol.ts
    have o2 := o1.grow ol.sm
    refine ⟨F0, rfl, ⟨_, SqL.of w1⟩, fun Fd nF => lc_list (xs := ts.map V.ref) (fun q H' => FoundL H5 os Fd (((optsK rp ro i j).take q).map (fromK rp ro)) H') (FoundL.start nF) (fun q H' _ x => SqL.of (x.sm _ _ w1)) ?_ ?_⟩
    · rintro q v H6 hv o5
      obtain ⟨t, ht, rfl⟩ := get_map hv
      have hq : q < (optsK rp ro i j).length := by rw [← w2]; exact (List.getElem?_eq_some_iff.mp ht).1
      obtain ⟨op, hop⟩ : ∃ op, (optsK rp ro i j)[q]? = some op := ⟨_, List.getElem?_eq_getElem hq⟩
      obtain ⟨sl, p, _, t1, t2, t3⟩ := (w3 q t op ht hop).same o5.sm
      obtain ⟨m1, m2, m3, m4⟩ := opts_in (List.mem_of_getElem? hop)
      have o6 := o2.grow o5.sm
      obtain ⟨kvs, h1, h2, h3⟩ := o6.dt
      obtain ⟨M, e1, _, e2⟩ := h3 op.2.1 op.2.2 ⟨by omega, by omega, by omega⟩
      have pl := plan_le (rp.drop op.2.1) (ro.drop op.2.2) op.2.2 (by rw [List.length_drop]; omega) (by rw [List.length_drop]; omega)
      refine ⟨t, _, rfl, SqT.of t1, rfl, _, _, rfl, _, _, rfl, rfl, rfl, ?_⟩
      obtain ⟨xs, z1, z3⟩ := t2.raw
      obtain ⟨ys, z2, z4⟩ := e2.raw
      refine ⟨_, rfl, _, rfl, _, rfl, D, .ref M, rfl, by rw [← e1]; exact DGet.t h1 t3, sl, M, xs, ys, rfl, rfl, z1, z2, by omega, fun Rr nR => ?_⟩
      obtain ⟨xs', ys', y1, y2, _, _, z5⟩ := t2.cat e2 nR
      rw [z1] at y1
      rw [z2] at y2
      cases y1
      cases y2
      obtain ⟨acc, u1, u2, u3⟩ := o5.more (same_new nR) nR z5
      refine ⟨acc, u1, by rw [u2, List.length_map, List.length_take]; have := opts_le rp ro i j; omega, ?_⟩
      have e3 : ((optsK rp ro i j).take (q + 1)).map (fromK rp ro) = ((optsK rp ro i j).take q).map (fromK rp ro) ++ [fromK rp ro op] := by
        rw [List.take_succ, hop, List.map_append]
        rfl
      rw [e3]
      exact u3
    · rintro H6 o5
      have elen : (ts.map V.ref).length = (optsK rp ro i j).length := by rw [List.length_map, w2]
      rw [elen, List.take_of_length_le (Nat.le_refl _)] at o5
      have hpl := plan_at rp ro (i := i) (j := j) (by omega) (by omega)
      generalize (optsK rp ro i j).map (fromK rp ro) = ls at o5 hpl
      have o6 := o2.grow o5.sm
      obtain ⟨us, y1, y2, y3⟩ := o5.ts
      refine ⟨_, rfl, small0, fun E0 nE => ?_⟩
      have sE := same_new (o := .lst []) nE
      have o6 := o6.grow sE
      have y1 := sE _ _ y1
      refine ⟨Fd, us, fun k => (ls.getD k []).length, rfl, SqL.of y1, fun k b' hb' => ?_, fun h0 => ?_, fun hp b' hb' => ?_⟩
      · have hk : k < ls.length := by rw [← y2]; exact (List.getElem?_eq_some_iff.mp hb').1
        obtain ⟨_, _, vs, q1, q2, _⟩ := y3 k b' (ls[k]) hb' (List.getElem?_eq_getElem hk)
        refine ⟨_, SqL.of (sE _ _ q1), ?_⟩
        rw [List.length_map, q2]
        show _ = (ls.getD k []).length
        rw [List.getD_eq_getElem?_getD, List.getElem?_eq_getElem hk]
        rfl
      · have hL : StpsA (upd H6 E0 (.lst [])) os E0 (plan (rp.drop i) (ro.drop j) j) := by
          have : ls = [] := List.eq_nil_of_length_eq_zero (by omega)
          rw [← hpl, this]
          exact ⟨[], upd_same, rfl, fun k t s e => by cases e⟩
        have nL : H1 E0 = none := same_old (same_trans o2.sm o5.sm) nE
        refine ⟨_, rfl, _, rfl, _, rfl, by show 2 ≤ sizeLine; decide, fun T2 nT2 => ?_⟩
        have sT := same_new (o := .tup [.int ((i : Nat) : Int), .int ((j : Nat) : Int)]) nT2
        obtain ⟨H7, dp, o7⟩ := (o6.grow sT).put (i := i) (j := j) (t := T2) (dm := fun i' j' => i' ≤ rp.length ∧ j' ≤ ro.length ∧ (rp.length < i' + a ∨ (rp.length = i' + a ∧ ro.length < j' + (b + 1)))) (hL.same sT) nL upd_same (by omega) (fun i' j' z => by
          by_cases c : i' = i ∧ j' = j
          · exact .inr c
          · exact .inl ⟨z.1, z.2.1, by omega⟩)
        exact ⟨D, H7, rfl, dp, o7, _, _, _, _, rfl⟩
      · have hL : H1 b' = none ∧ StpsA (upd H6 E0 (.lst [])) os b' (plan (rp.drop i) (ro.drop j) j) := by
          rw [← hpl]
          have hk : bestLen (fun k => (ls.getD k []).length) us.length < ls.length := by rw [← y2]; exact (List.getElem?_eq_some_iff.mp hb').1
          have e9 : ls[bestLen (fun k => (ls.getD k []).length) us.length]? = some (pickS ls) := by
            unfold pickS
            rw [← y2, List.getD_eq_getElem?_getD, List.getElem?_eq_getElem hk]
            rfl
          obtain ⟨_, q0, q1⟩ := y3 _ b' _ hb' e9
          exact ⟨same_old o2.sm q0, q1.same sE⟩
        obtain ⟨nL, hL⟩ := hL
        refine ⟨_, rfl, _, rfl, _, rfl, by show 2 ≤ sizeLine; decide, fun T2 nT2 => ?_⟩
        have sT := same_new (o := .tup [.int ((i : Nat) : Int), .int ((j : Nat) : Int)]) nT2
        obtain ⟨H7, dp, o7⟩ := (o6.grow sT).put (i := i) (j := j) (t := T2) (dm := fun i' j' => i' ≤ rp.length ∧ j' ≤ ro.length ∧ (rp.length < i' + a ∨ (rp.length = i' + a ∧ ro.length < j' + (b + 1)))) (hL.same sT) nL upd_same (by omega) (fun i' j' z => by
          by_cases c : i' = i ∧ j' = j
          · exact .inr c
          · exact .inl ⟨z.1, z.2.1, by omega⟩)
        exact ⟨D, H7, rfl, dp, o7, _, _, _, _, rfl⟩
end
end TGK

namespace TG
open PySem PySem.Spec PyProof.Rows L2 NdefX GenW Gx Lv
section
variable {P : Program} {w : World} {K : PySem.W.Frag} {mg : Str → Option Value} {base : Heap}
def spPageM : Sp := fun vs H Q _ => ∃ (b l : Addr) (m : Int), vs = [.ref b, .int m] ∧ BoxAt H b l ∧ 1 ≤ m ∧ m ≤ 30 ∧
  ∀ (p : Addr) (as : List Addr) (rows : List (List Str)) (H' : Hp), BoxAt H' b l → KB b l H H' → H p = none → p ≠ b → p ≠ l → H' p = some (.lst (as.map V.ref)) → as.length = rows.length → (∀ (i : Nat) (q : Addr) (r : List Str), as[i]? = some q → rows[i]? = some r → H' q = some (.tup (sV r))) → PgOk rows → ((rows.length : Nat) : Int) ≤ m → Q (.ref p) H'
theorem ok_lpageM {f g g2 : Addr} {fd fdg fd2 : FuncData} (T : Txt mg) (F : Fun K "_law_page" "_law_page" s_page f fd)
    (G : FnOk P w K mg base CX0 1 g fdg ["_law_box", "_law_many"] spTake) (kp : PySem.W.keepIn K (.ref g) = true) (bd : Binds K fdg ["_law_box", "_law_many"] []) (mgg : mg "_law_take" = some (.ref g))
    (G2 : FnOk P w K mg base CX0 4 g2 fd2 ["_law_box", "_law_sorts", "_law_many"] spRowD) (kp2 : PySem.W.keepIn K (.ref g2) = true) (bd2 : Binds K fd2 ["_law_box", "_law_sorts", "_law_many"] []) (mg2 : mg "_law_row" = some (.ref g2)) : FnOk P w K mg base CX0 5 f fd ["_law_box", "_law_most"] spPageM := by
  refine F.ok sc_lpage (fun vs H Q E h => ?_) (fun cdv A outer s H vs Q E hr h => ?_)
  · obtain ⟨b, l, m, rfl, _⟩ := h
    rfl
  · obtain ⟨b, l, m, rfl, hB, m1, m30, k⟩ := h
    have nd := sc_lpage.nd
    have szl : (1000 : Nat) < sizeLine := by decide
    have hr1 : Room 1 _ := hr.mono (by decide)
    refine ⟨_, pss_cons (ps_setLc (i := 2) (own := [("_law_k", 7)]) (g := gName 7) rfl nd rfl rfl (sw_true rfl rfl rfl (by decide +kernel)) (pi_range1 (by rfl) T.range (pa_cons pe_int pa_nil)) (blkOk_by (own := [("_law_k", 7)]) (N := nmPage) (sc := defScope s_page) (by decide +kernel))
          (fun _ _ _ _ _ => pg_name (i := 7) nd rfl (Or.inl rfl)) (fun _ _ _ _ _ => pts_nil) (fun s1 H1 C1 cl1 fp1 => pe_call G hr1 (by rfl) mgg kp bd .nil pass0 (pa_cons (pv 0) (pa_cons pe_int pa_nil))))
      (pss_cons (ps_par (i := 3) (j := 4) rfl nd rfl rfl (by decide) rfl rfl (pa_cons (pe_op op_add pe_int (pe_call G hr1 (by rfl) mgg kp bd .nil pass0 (pa_cons (pv 0) (pa_cons pe_int pa_nil)))) (pa_cons (pe_lst pa_nil) pa_nil)) (by rfl))
      (pss_cons (ps_for PassesOwn.never rfl (pi_range1 (by rfl) T.range (pa_cons (pe_op op_add pe_int (pe_call G hr1 (by rfl) mgg kp bd .nil pass0 (pa_cons (pv 0) (pa_cons (pv 1) pa_nil)))) pa_nil)) (pg_name (i := 5) nd rfl (.inl rfl))
        (pss_cons (ps_set (i := 6) nd rfl (.inl rfl) (pe_call G hr1 (by rfl) mgg kp bd .nil pass0 (pa_cons (pv 0) (pa_cons pe_int pa_nil))))
        (pss_cons (ps_set (i := 3) nd rfl (.inl rfl) (pe_ix ix_list (pe_lst (pa_cons (pe_op op_add pe_int (pe_call G hr1 (by rfl) mgg kp bd .nil pass0 (pa_cons (pv 0) (pa_cons pe_int pa_nil)))) (pa_cons (pe_callB (call_max2 rfl) (by rfl) T.max (by decide +kernel) (pa_cons pe_int (pa_cons (pe_op op_sub (pv 3) pe_int) pa_nil)))
            (pa_cons (pe_callB (call_min2 rfl) (by rfl) T.min (by decide +kernel) (pa_cons pe_int (pa_cons (pe_op op_add (pv 3) pe_int) pa_nil))) (pa_cons (pv 3) pa_nil))))) (pe_callB (call_min2 rfl) (by rfl) T.min (by decide +kernel) (pa_cons (pv 6) (pa_cons pe_int pa_nil))) (fun _ _ => rfl)))
        (pss_cons (ps_expr (pe_bm PySem.F.plainAttrs_list PySem.F.slot_list_append PySem.F.type_list_append mt_append (pv 4) (pa_cons (pe_call G2 hr (by rfl) mg2 kp2 bd2 .nil pass0 (pa_cons (pv 0) (pa_cons (pv 2) (pa_cons (pv 3) pa_nil)))) pa_nil)))
        (pss_one (ps_if (pt_cmpR op_eq (pv 6) pe_int (nomark _))
          (pss_cons (ps_asg (pe_ix ix_list (pv 4) (pe_call G hr1 (by rfl) mgg kp bd .nil pass0 (pa_cons (pv 0) (pa_cons (pe_callB call_len_seq (by rfl) T.len PySem.boot_len (pa_cons (pv 4) pa_nil)) pa_nil))) (fun _ _ => rfl)) (pg_sub (pv 4) (pe_un un_neg pe_int) set_list))
          (pss_one (ps_set (i := 3) nd rfl (.inl rfl) (pe_callB call_len_seq (by rfl) T.len PySem.boot_len (pa_cons (pe_ix ix_list (pv 4) (pe_un un_neg pe_int) (fun _ _ => rfl)) pa_nil))))) pss_nil))))))
      (pss_one (ps_ret (pv 4))))), ?_⟩
    refine ⟨6, rfl, by decide, by decide, fun sr nsr => lc_range (n := 6) (fun i H' => IntsAt b l H sr i H') (IntsAt.start hB KB.refl nsr) ?_ ?_⟩
    · rintro i H1 hi o
      refine ⟨rfl, _, rfl, b, l, 2, rfl, o.box, by decide, by decide, fun r H2 r0 r1 hB2 x2 => ?_⟩
      obtain ⟨acc, hacc, hl, o2⟩ := o.more (z := r) hB2 x2
      exact ⟨acc, hacc, by omega, o2⟩
    rintro H1 ⟨hB1, x1, nsr, sb, sl, ss, h6, hs1⟩
    refine ⟨_, rfl, b, l, 6, rfl, hB1, by decide, by decide, fun m0 H2 a0 a1 hB2 x2 => ⟨1, m0, rfl, rfl, small0, fun lr nlr => ⟨_, _, rfl, ?_⟩⟩⟩
    have hs2 := x2 sr _ hs1 sb sl
    have y2 := x1.trans x2
    obtain ⟨lb, ll⟩ := new_ne hB2 nlr
    have lrs : lr ≠ sr := fun z => by rw [z, hs2] at nlr; cases nlr
    have nlr0 := new_old y2 hB2 nlr
    refine ⟨_, rfl, _, rfl, b, l, m, rfl, box_new hB2 nlr, by omega, by omega, fun tt H4 t0 t1 hB4 x4 => ⟨1, tt, rfl, rfl, 1 + tt, rfl, by omega, by omega, ?_⟩⟩
    have hs4 : H4 sr = some (.lst (ss.map V.int)) := x4 sr _ (by rw [upd_ne lrs.symm]; exact hs2) sb sl
    have y4 := (y2.trans (kb_new nlr)).trans x4
    have hl4 : H4 lr = some (.lst []) := x4 lr _ upd_same lb ll
    refine for_range (n := (1 + tt).toNat) (fun i σ H' => ∃ (mm : Int) (as : List Addr) (c5 c6 : Option V), σ = [some (.ref b), some (.int m), some (.ref sr), some (.int mm), some (.ref lr), c5, c6, none] ∧ 1 ≤ mm ∧ mm ≤ 6 ∧ BoxAt H' b l ∧ KB b l H H' ∧ H' sr = some (.lst (ss.map V.int)) ∧ H' lr = some (.lst (as.map V.ref)) ∧ as.length = i ∧ RowsP H' as)
      ⟨1 + m0, [], none, none, rfl, by omega, by omega, hB4, y4, hs4, hl4, rfl, fun p h => by simp at h⟩ ?_ ?_
    · rintro i σ H5 hi ⟨mm, as, c5, c6, rfl, mm1, mm6, hB5, y5, hs5, hl5, hlen, hR5⟩
      refine ⟨_, rfl, b, l, 8, rfl, hB5, by decide, by decide, fun way H6 w0 w1 hB6 x6 => ?_⟩
      refine ⟨_, rfl, b, l, 6, rfl, hB6, by decide, by decide, fun n6 H7 n0 n1 hB7 x7 => ⟨1, n6, rfl, rfl, _, rfl, mm, 1, rfl, rfl, 1, mm - 1, rfl, _, rfl, mm, 1, rfl, rfl, 6, mm + 1, rfl, _, rfl, line10 (by show 4 ≤ 1000; decide), fun q nq => ?_⟩⟩
      obtain ⟨mv, hmv, emv⟩ := pick (xs := [1 + n6, (if mm - 1 > 1 then mm - 1 else 1), (if mm + 1 < 6 then mm + 1 else 6), mm]) (i := if 3 < way then 3 else way) (by split <;> omega) (by show _ < (4 : Int); split <;> omega)
      have hmv2 : 1 ≤ mv ∧ mv ≤ 6 := by
        simp only [List.mem_cons, List.not_mem_nil, or_false] at hmv
        rcases hmv with h | h | h | h
        · omega
        · split at h <;> omega
        · split at h <;> omega
        · omega
      refine ⟨_, rfl, way, 3, rfl, q, _, _, .int mv, rfl, rfl, SqL.of upd_same, atI_map (f := V.int) emv, ?_⟩
      have y7 : KB b l H5 (upd H7 q (.lst (List.map V.int [1 + n6, (if mm - 1 > 1 then mm - 1 else 1), (if mm + 1 < 6 then mm + 1 else 6), mm]))) := (x6.trans x7).trans (kb_new nq)
      have hB8 := box_new (o := .lst (List.map V.int [1 + n6, (if mm - 1 > 1 then mm - 1 else 1), (if mm + 1 < 6 then mm + 1 else 6), mm])) hB7 nq
      have hl8 := y7 lr _ hl5 lb ll
      have hs8 := y7 sr _ hs5 sb sl
      refine ⟨_, rfl, .inl ⟨rfl, _, SqL.of hl8⟩, _, rfl, _, rfl, _, rfl, b, l, sr, ss, mv, rfl, hB8, hs8, h6, sb, sl, hmv2.1, hmv2.2, fun p r H9 hB9 x9 np hp hro => ?_⟩
      have hl9 := x9 lr _ hl8 lb ll
      have hs9 := x9 sr _ hs8 sb sl
      have plr : p ≠ lr := fun z => by rw [z, hl9] at hp; cases hp
      refine ⟨lr, _, .ref p, rfl, rfl, hl9, by rw [List.length_map]; omega, ?_⟩
      have el : as.map V.ref ++ [V.ref p] = (as ++ [p]).map V.ref := by simp
      rw [el]
      have y9 := kb_upd (o := .lst ((as ++ [p]).map V.ref)) (y5.trans (y7.trans x9)) nlr0
      have hB10 := box_upd (o := .lst ((as ++ [p]).map V.ref)) hB9 lb ll
      have hl10 : (upd H9 lr (.lst ((as ++ [p]).map V.ref))) lr = some (.lst ((as ++ [p]).map V.ref)) := upd_same
      have hs10 : (upd H9 lr (.lst ((as ++ [p]).map V.ref))) sr = some (.lst (ss.map V.int)) := by rw [upd_ne lrs.symm]; exact hs9
      have hR10 : RowsP (upd H9 lr (.lst ((as ++ [p]).map V.ref))) (as ++ [p]) := fun u hu => by
        rcases List.mem_append.mp hu with h | h
        · obtain ⟨r2, e1, e2⟩ := hR5 u h
          have e3 := kb_tup (y7.trans x9) hB5 u _ e1
          exact ⟨r2, by rw [upd_ne (fun z => by rw [z, hl9] at e3; cases e3)]; exact e3, e2⟩
        · rw [List.mem_singleton.mp h]
          exact ⟨r, by rw [upd_ne plr]; exact hp, hro⟩
      have hlen2 : (as ++ [p]).length = i + 1 := by rw [List.length_append, hlen]; rfl
      generalize (upd H9 lr (.lst ((as ++ [p]).map V.ref))) = H10 at y9 hB10 hl10 hs10 hR10 ⊢
      generalize as ++ [p] = as2 at hl10 hR10 hlen2 ⊢
      refine ⟨_, rfl, rfl, _, rfl, iteB ?_ ?_⟩
      · have ln : ((as2.map V.ref).length : Int) = ((i + 1 : Nat) : Int) := by rw [List.length_map, hlen2]
        refine ⟨_, rfl, _, rfl, _, rfl, lr, _, rfl, .inl (SqL.of hl10), b, l, _, rfl, hB10, by omega, by omega, fun j H11 j0 j1 hB11 x11 => ?_⟩
        have hl11 := x11 lr _ hl10 lb ll
        obtain ⟨u, hu, eu⟩ := pick (xs := as2) (i := j) j0 (by rw [hlen2]; omega)
        obtain ⟨r2, e1, e2⟩ := hR10 u hu
        have e3 := kb_tup x11 hB10 u _ e1
        have ulr : u ≠ lr := fun z => by rw [z, hl11] at e3; cases e3
        have ix : ixN (as2.map V.ref).length (-1) = some i := by rw [List.length_map, hlen2]; exact ixm1
        refine ⟨lr, _, j, .ref u, rfl, rfl, SqL.of hl11, atI_map eu, _, rfl, 1, rfl, lr, _, -1, i, rfl, rfl, hl11, ix, ?_⟩
        have es : (as2.map V.ref).set i (V.ref u) = (as2.set i u).map V.ref := by rw [List.map_set]
        rw [es]
        have gu : (as2.set i u)[i]? = some u := List.getElem?_set_self (by omega)
        have hs11 := x11 sr _ hs10 sb sl
        refine ⟨_, rfl, 1, rfl, lr, _, -1, .ref u, rfl, rfl, SqL.of upd_same, atm1 (n := i) (by rw [List.length_map, List.length_set, hlen2]) (by rw [List.getElem?_map, gu]; rfl), u, _, rfl, .inr (SqT.of (by rw [upd_ne ulr]; exact e3)), ?_⟩
        have l1 := e2.pos
        have l2 := e2.len
        have lr2 : (sV r2).length = r2.length := List.length_map ..
        refine ⟨_, as2.set i u, _, _, rfl, by omega, by omega, box_upd hB11 lb ll, kb_upd (y9.trans x11) nlr0, by rw [upd_ne lrs.symm]; exact hs11, upd_same, by rw [List.length_set, hlen2], fun v hv => ?_⟩
        rcases List.mem_or_eq_of_mem_set hv with h | h
        · obtain ⟨r3, f1, f2⟩ := hR10 v h
          have f3 := kb_tup x11 hB10 v _ f1
          exact ⟨r3, by rw [upd_ne (fun z => by rw [z, hl11] at f3; cases f3)]; exact f3, f2⟩
        · rw [h]
          exact ⟨r2, by rw [upd_ne ulr]; exact e3, e2⟩
      · exact ⟨_, as2, _, _, rfl, hmv2.1, hmv2.2, hB10, y9, hs10, hl10, hlen2, hR10⟩
    · rintro σ H5 ⟨mm, as, c5, c6, rfl, mm1, mm6, hB5, y5, hs5, hl5, hlen, hR5⟩
      obtain ⟨rows, g1, g2, g3⟩ := hR5.page
      exact ⟨_, rfl, k lr as rows H5 hB5 y5 nlr0 lb ll hl5 g1 g2 ⟨by omega, by omega, g3⟩ (by omega)⟩
end
end TG

namespace TGK
open TG RT
open PySem PySem.Spec PyProof.Rows L2 NdefX GenW Gx Lv
abbrev s_near : Stmt := top 27
/-! ### pages near a page -/
theorem cutV_to (xs : List V) (n : Nat) : cutV xs none (some ((n : Nat) : Int)) = xs.take n := by
  unfold cutV
  rw [HT.sIx_none, HT.sIx_nat]
  simp
theorem cutV_from (xs : List V) (n : Nat) : cutV xs (some ((n : Nat) : Int)) none = xs.drop n := by
  unfold cutV
  rw [HT.sIx_none, HT.sIx_nat]
  by_cases h : n ≤ xs.length
  · rw [Nat.min_eq_left h, List.take_of_length_le]
    rw [List.length_drop]
    exact Nat.le_refl _
  · rw [Nat.min_eq_right (by omega), Nat.sub_self, List.take_zero, List.drop_eq_nil_of_le (by omega)]
theorem cutV_mid (xs : List V) {a b : Nat} (ha : a ≤ xs.length) : cutV xs (some ((a : Nat) : Int)) (some ((b : Nat) : Int)) = (xs.drop a).take (b - a) := by
  unfold cutV
  rw [HT.sIx_nat, HT.sIx_nat, Nat.min_eq_left ha]
  by_cases h : b ≤ xs.length
  · rw [Nat.min_eq_left h]
  · rw [Nat.min_eq_right (by omega), List.take_of_length_le (by rw [List.length_drop]; exact Nat.le_refl _), List.take_of_length_le (by rw [List.length_drop]; omega)]
abbrev RwP := Addr × List Str
abbrev rV0 (p : RwP) : V := .ref p.1
/-- a list of rows under way -/
structure Nr (H0 : Hp) (b l r : Addr) (ps ex : List RwP) (H : Hp) : Prop where
  box : BoxAt H b l
  kb : KB b l H0 H
  nr : H0 r = none
  rb : r ≠ b
  rl : r ≠ l
  lst : H r = some (.lst (ps.map rV0))
  row : ∀ p, p ∈ ps ∨ p ∈ ex → H p.1 = some (.tup (sV p.2)) ∧ RowOk p.2
  pos : 1 ≤ ps.length
  len : ps.length ≤ 30
theorem Nr.go {H0 H H' : Hp} {b l r : Addr} {ps ex : List RwP} (o : Nr H0 b l r ps ex H) (x : KB b l H H') (hB : BoxAt H' b l) : Nr H0 b l r ps ex H' :=
  ⟨hB, o.kb.trans x, o.nr, o.rb, o.rl, x _ _ o.lst o.rb o.rl, fun p hp => ⟨kb_tup x o.box _ _ (o.row p hp).1, (o.row p hp).2⟩, o.pos, o.len⟩
theorem Nr.al {H0 H : Hp} {b l r c : Addr} {ps ex : List RwP} {u : HO} (o : Nr H0 b l r ps ex H) (n : H c = none) : Nr H0 b l r ps ex (upd H c u) := o.go (kb_new n) (box_new o.box n)
theorem Nr.put {H0 H : Hp} {b l r : Addr} {ps ex qs : List RwP} (o : Nr H0 b l r ps ex H) (h : ∀ p ∈ qs, p ∈ ps ∨ p ∈ ex) (h1 : 1 ≤ qs.length) (h2 : qs.length ≤ 30) : Nr H0 b l r qs [] (upd H r (.lst (qs.map rV0))) :=
  ⟨box_upd o.box o.rb o.rl, kb_upd o.kb o.nr, o.nr, o.rb, o.rl, upd_same, fun p hp => (by
    rcases hp with hp | hp
    · obtain ⟨a, c⟩ := o.row p (h p hp)
      exact ⟨by rw [upd_ne (fun e => by rw [e, o.lst] at a; cases a)]; exact a, c⟩
    · cases hp), h1, h2⟩
theorem Nr.new {H0 H : Hp} {b l r s : Addr} {ps ex qs : List RwP} (o : Nr H0 b l r ps ex H) (n : H s = none) (h : ∀ p ∈ qs, p ∈ ps ∨ p ∈ ex) (h1 : 1 ≤ qs.length) (h2 : qs.length ≤ 30) : Nr H0 b l s qs [] (upd H s (.lst (qs.map rV0))) :=
  ⟨box_new o.box n, o.kb.trans (kb_new n), new_old o.kb o.box n, (new_ne o.box n).1, (new_ne o.box n).2, upd_same, fun p hp => (by
    rcases hp with hp | hp
    · obtain ⟨a, c⟩ := o.row p (h p hp)
      exact ⟨by rw [upd_ne (fun e => by rw [e, n] at a; cases a)]; exact a, c⟩
    · cases hp), h1, h2⟩
theorem Nr.less {H0 H : Hp} {b l r : Addr} {ps ex : List RwP} (o : Nr H0 b l r ps ex H) : Nr H0 b l r ps [] H :=
  ⟨o.box, o.kb, o.nr, o.rb, o.rl, o.lst, fun p hp => o.row p (hp.imp id fun z => by cases z), o.pos, o.len⟩
theorem Nr.more {H0 H : Hp} {b l r : Addr} {ps : List RwP} {q : RwP} (o : Nr H0 b l r ps [] H) (h : H q.1 = some (.tup (sV q.2)) ∧ RowOk q.2) : Nr H0 b l r ps [q] H :=
  ⟨o.box, o.kb, o.nr, o.rb, o.rl, o.lst, fun p hp => hp.elim (fun z => o.row p (.inl z)) fun z => by rw [List.mem_singleton.mp z]; exact h, o.pos, o.len⟩
/-- a list beside the box -/
def Lk (b l : Addr) (H : Hp) (p : Addr) (xs : List V) : Prop := H p = some (.lst xs) ∧ p ≠ b ∧ p ≠ l
theorem Lk.go {b l p : Addr} {H H' : Hp} {xs : List V} (h : Lk b l H p xs) (x : KB b l H H') : Lk b l H' p xs := ⟨x _ _ h.1 h.2.1 h.2.2, h.2⟩
theorem Lk.new {b l p : Addr} {H : Hp} {xs : List V} (hB : BoxAt H b l) (n : H p = none) : Lk b l (upd H p (.lst xs)) p xs := ⟨upd_same, new_ne hB n⟩
theorem ixN_at {n j : Nat} (hj : j < n) : ixN n (j : Int) = some j := by
  unfold ixN
  rw [if_pos (by omega), if_pos (by omega)]
  simp
theorem erase_map (ps : List RwP) (k : Nat) : (ps.map rV0).eraseIdx k = (ps.eraseIdx k).map rV0 := by
  rw [List.eraseIdx_eq_take_drop_succ, List.eraseIdx_eq_take_drop_succ, List.map_append, List.map_take, List.map_drop]
section
variable {P : Program} {w : World} {K : PySem.W.Frag} {mg : Str → Option Value} {base : Heap} {cs : List (Addr × Addr)}
def spNear (K : PySem.W.Frag) : Sp := fun vs H Q _ => ∃ (b l pg : Addr) (as : List Addr) (rows : List (List Str)), vs = [.ref b, .ref pg] ∧ BoxAt H b l ∧ H pg = some (.lst (as.map V.ref)) ∧ pg ≠ b ∧ pg ≠ l ∧ as.length = rows.length ∧ (∀ (i : Nat) (q : Addr) (r : List Str), as[i]? = some q → rows[i]? = some r → H q = some (.tup (sV r))) ∧ PgOk rows ∧
  ∀ (p : Addr) (as' : List Addr) (rows' : List (List Str)) (H' : Hp), BoxAt H' b l → KB b l H H' → H p = none → p ≠ b → p ≠ l → H' p = some (.lst (as'.map V.ref)) → as'.length = rows'.length → (∀ (i : Nat) (q : Addr) (r : List Str), as'[i]? = some q → rows'[i]? = some r → H' q = some (.tup (sV r))) → PgOk rows' → Q (.ref p) H'
abbrev nmNear : List Str := ["_law_box", "_law_page_here", "_law_rows", "_law_turn", "_law_k", "_law_way", "_law_new"]
theorem sc_near : FnScope nmNear ["_law_box", "_law_page_here"] (defScope s_near) := ⟨rfl, rfl, rfl, by decide +kernel, rfl, by decide +kernel, by decide +kernel⟩
theorem ok_near {f gG gW : Addr} {fd fdG fdW : FuncData} (T : Txt mg) (F : Fun K "_law_near" "_law_near" s_near f fd)
    (G : FnOk P w K mg base CX0 1 gG fdG ["_law_box", "_law_many"] spTake) (kG : PySem.W.keepIn K (.ref gG) = true) (bG : Binds K fdG ["_law_box", "_law_many"] []) (mG : mg "_law_take" = some (.ref gG))
    (W : FnOk P w K mg base CX0 4 gW fdW ["_law_box", "_law_sorts", "_law_many"] spRowD) (kW : PySem.W.keepIn K (.ref gW) = true) (bW : Binds K fdW ["_law_box", "_law_sorts", "_law_many"] []) (mW : mg "_law_row" = some (.ref gW)) :
    FnOk P w K mg base CX0 5 f fd ["_law_box", "_law_page_here"] (spNear K) := by
  refine F.ok sc_near (fun vs H Q E h => ?_) (fun cdv A outer s H vs Q E hr h => ?_)
  · obtain ⟨b, l, pg, _, _, rfl, _⟩ := h
    rfl
  · obtain ⟨b, l, pg, as, rows, rfl, hB, hp, pb, pl, hlen, hrow, gP, k⟩ := h
    have nd := sc_near.nd
    have r1 : Room 1 _ := hr.mono (by decide)
    have r4 : Room 4 _ := hr.mono (by decide)
    have szl : (9000 : Nat) < sizeLine := by decide
    refine ⟨_, (pss_cons (ps_set (i := 2) nd rfl (.inl rfl) (pe_callTy call_list_of (by rfl) T.list (by decide +kernel) (pa_cons (pv 1) pa_nil)))
      (pss_cons (ps_for PassesOwn.never rfl (pi_range1 (by rfl) T.range (pa_cons (pe_call G r1 (by rfl) mG kG bG .nil pass0 (pa_cons (pv 0) (pa_cons pe_int pa_nil))) pa_nil)) (pg_name (i := 3) nd rfl (.inl rfl))
      (pss_cons (ps_par (i := 4) (j := 5) rfl nd rfl rfl (by decide) rfl rfl (pa_cons (pe_call G r1 (by rfl) mG kG bG .nil pass0 (pa_cons (pv 0) (pa_cons (pe_callB call_len_seq (by rfl) T.len PySem.boot_len (pa_cons (pv 2) pa_nil)) pa_nil))) (pa_cons (pe_call G r1 (by rfl) mG kG bG .nil pass0 (pa_cons (pv 0) (pa_cons pe_int pa_nil))) pa_nil)) (by rfl))
      (pss_cons (ps_set (i := 6) nd rfl (.inl rfl) (pe_call W r4 (by rfl) mW kW bW .nil pass0 (pa_cons (pv 0) (pa_cons (pe_lst (pa_cons pe_int (pa_cons pe_int (pa_cons pe_int (pa_cons pe_int (pa_cons pe_int (pa_cons pe_int pa_nil))))))) (pa_cons (pe_op op_add pe_int (pe_call G r1 (by rfl) mG kG bG .nil pass0 (pa_cons (pv 0) (pa_cons pe_int pa_nil)))) pa_nil)))))
      (pss_cons (ps_if (pt_cmpR op_eq (pv 5) pe_int (nomark _)) (pss_one (ps_asg (pv 6) (pg_sub (pv 2) (pv 4) set_list))) pss_nil)
      (pss_cons (ps_if (PW.pt (pw_and (pt_cmpR op_eq (pv 5) pe_int (nomark _)) (pw_and1 (pt_cmpR op_lt (pe_callB call_len_seq (by rfl) T.len PySem.boot_len (pa_cons (pv 2) pa_nil)) pe_int (nomark _))))) (pss_one (ps_set (i := 2) nd rfl (.inl rfl) (pe_op op_cat (pe_op op_cat (pe_slice sl_list (pv 2) po_none (po_some (pv 4))) (pe_lst (pa_cons (pe_ix ix_list (pe_lst (pa_cons (pv 6) (pa_cons (pe_ix ix_list (pv 2) (pv 4) (fun _ _ => rfl)) pa_nil))) (pe_call G r1 (by rfl) mG kG bG .nil pass0 (pa_cons (pv 0) (pa_cons pe_int pa_nil))) (fun _ _ => rfl)) pa_nil))) (pe_slice sl_list (pv 2) (po_some (pv 4)) po_none)))) pss_nil)
      (pss_cons (ps_if (PW.pt (pw_and (pt_cmpR op_eq (pv 5) pe_int (nomark _)) (pw_and1 (pt_cmpR op_gt (pe_callB call_len_seq (by rfl) T.len PySem.boot_len (pa_cons (pv 2) pa_nil)) pe_int (nomark _))))) (pss_one (ps_expr (pe_bm PySem.F.plainAttrs_list PySem.F.slot_list_pop PySem.F.type_list_pop mt_popAt (pv 2) (pa_cons (pv 4) pa_nil)))) pss_nil)
      (pss_cons (ps_if (pt_cmpR op_eq (pv 5) pe_int (nomark _)) (pss_one (ps_set (i := 2) nd rfl (.inl rfl) (pe_op op_cat (pe_op op_cat (pe_slice sl_list (pv 2) po_none (po_some (pv 4))) (pe_revL (pe_slice sl_list (pv 2) (po_some (pv 4)) (po_some (pe_op op_add (pv 4) pe_int))))) (pe_slice sl_list (pv 2) (po_some (pe_op op_add (pv 4) pe_int)) po_none)))) pss_nil)
      (pss_one (ps_if (pt_cmpR op_eq (pv 5) pe_int (nomark _)) (pss_one (ps_set (i := 2) nd rfl (.inl rfl) (pe_op op_cat (pe_slice sl_list (pv 2) (po_some (pv 4)) po_none) (pe_slice sl_list (pv 2) po_none (po_some (pv 4)))))) pss_nil)))))))))
      (pss_one (ps_ret (pv 2))))), ?_⟩
    refine ⟨_, rfl, pg, _, rfl, .inl (SqL.of hp), fun r0 nr0 => ?_⟩
    have o0 : Nr H b l r0 (as.zip rows) [] (upd H r0 (.lst (as.map V.ref))) := by
      have ez : (as.zip rows).map rV0 = as.map V.ref := by
        rw [show (rV0 : RwP → V) = V.ref ∘ Prod.fst from rfl, ← List.map_map, List.map_fst_zip (by omega)]
      refine ⟨box_new hB nr0, kb_new nr0, nr0, (new_ne hB nr0).1, (new_ne hB nr0).2, by rw [ez]; exact upd_same, fun p hp => ?_, ?_, ?_⟩
      · rcases hp with hp | hp
        · obtain ⟨i, hi⟩ := List.mem_iff_getElem?.mp hp
          rw [List.getElem?_zip_eq_some] at hi
          have e := hrow i _ _ hi.1 hi.2
          exact ⟨by rw [upd_ne (fun z => by rw [z, nr0] at e; cases e)]; exact e, gP.rows _ (List.mem_of_getElem? hi.2)⟩
        · cases hp
      · rw [List.length_zip, hlen, Nat.min_self]; exact gP.pos
      · rw [List.length_zip, hlen, Nat.min_self]; exact gP.len
    generalize upd H r0 (.lst (as.map V.ref)) = H1 at o0 ⊢
    refine ⟨_, rfl, b, l, 6, rfl, o0.box, by decide, by decide, fun tt H2 t0 t1 hB2 x2 => ⟨tt, rfl, by omega, by omega, ?_⟩⟩
    have o0 := o0.go x2 hB2
    refine for_range (n := tt.toNat) (fun i σ H' => ∃ (r : Addr) (ps : List RwP) (c3 c4 c5 c6 : Option V), σ = [some (.ref b), some (.ref pg), some (.ref r), c3, c4, c5, c6] ∧ Nr H b l r ps [] H') ⟨r0, _, none, none, none, none, rfl, o0⟩ ?_ ?_
    rotate_left
    · rintro σ H3 ⟨r, ps, c3, c4, c5, c6, rfl, o⟩
      refine ⟨_, rfl, k r (ps.map (·.1)) (ps.map (·.2)) H3 o.box o.kb o.nr o.rb o.rl (by rw [o.lst, List.map_map]; rfl) (by rw [List.length_map, List.length_map]) (fun i q r' e1 e2 => ?_) ⟨by rw [List.length_map]; exact o.pos, by rw [List.length_map]; exact o.len, fun r' hr' => ?_⟩⟩
      · obtain ⟨p, hp, rfl⟩ := get_map e1
        rw [List.getElem?_map, hp] at e2
        cases e2
        exact (o.row p (.inl (List.mem_of_getElem? hp))).1
      · obtain ⟨p, hp, rfl⟩ := List.mem_map.mp hr'
        exact (o.row p (.inl hp)).2
    clear k
    rintro i σ H3 hi ⟨r, ps, c3, c4, c5, c6, rfl, o⟩
    have ol := o.len
    have op := o.pos
    have lm : (ps.map rV0).length = ps.length := List.length_map ..
    refine ⟨_, rfl, _, rfl, r, _, rfl, .inl (SqL.of o.lst), b, l, _, rfl, o.box, by omega, by omega, fun kk H4 k0 k1 hB4 x4 => ?_⟩
    have o := o.go x4 hB4
    refine ⟨_, rfl, b, l, 5, rfl, o.box, by decide, by decide, fun w H5 w0 w1 hB5 x5 => ⟨_, _, rfl, ?_⟩⟩
    have o := o.go x5 hB5
    obtain ⟨k, rfl⟩ := Int.eq_ofNat_of_zero_le k0
    have hk : k < ps.length := by omega
    refine ⟨_, rfl, by show 6 ≤ sizeLine; decide, fun sl nsl => ?_⟩
    have fs := Lk.new (xs := [0, 1, 0, 1, 0, 1].map V.int) o.box nsl
    have o := o.al (u := .lst ([0, 1, 0, 1, 0, 1].map V.int)) nsl
    refine ⟨_, rfl, b, l, 6, rfl, o.box, by decide, by decide, fun m H6 m0 m1 hB6 x6 => ⟨1, m, rfl, rfl, ?_⟩⟩
    have o := o.go x6 hB6
    have fs := fs.go x6
    refine ⟨b, l, sl, [0, 1, 0, 1, 0, 1], 1 + m, rfl, o.box, fs.1, rfl, fs.2.1, fs.2.2, by omega, by omega, fun q rw_ H7 hB7 x7 nq hq hro => ?_⟩
    have o := (o.go x7 hB7).more (q := (q, rw_)) ⟨hq, hro⟩
    clear fs nsl x4 x5 x6 x7 hB4 hB5 hB6 hB7 nq hq hro o0 x2 hB2
    rename_i H4' H5' H6'
    clear k1 k0 m0 m1
    generalize H7 = H4 at o ⊢
    rcases (by omega : w = 0 ∨ w = 1 ∨ w = 2 ∨ w = 3 ∨ w = 4) with rfl | rfl | rfl | rfl | rfl
    · refine ⟨_, rfl, rfl, true, dT rfl, iteT ⟨_, rfl, _, rfl, _, rfl, r, _, ((k : Nat) : Int), k, rfl, rfl, o.lst, ixN_at (by rw [List.length_map]; exact hk), ?_⟩⟩
      have eq : (ps.map rV0).set k (.ref q) = (ps.set k (q, rw_)).map rV0 := by rw [List.map_set]
      rw [eq]
      have o := o.put (qs := ps.set k (q, rw_)) (fun p hp => (List.mem_or_eq_of_mem_set hp).imp id fun e => by rw [e]; exact List.mem_singleton.mpr rfl) (by rw [List.length_set]; exact o.pos) (by rw [List.length_set]; exact o.len)
      refine ⟨_, rfl, rfl, false, dF (by decide), iteF ?_⟩
      refine ⟨_, rfl, rfl, false, dF (by decide), iteF ?_⟩
      refine ⟨_, rfl, rfl, false, dF (by decide), iteF ?_⟩
      refine ⟨_, rfl, rfl, false, dF (by decide), iteF ?_⟩
      exact ⟨_, _, _, _, _, _, rfl, o⟩
    · refine ⟨_, rfl, rfl, false, dF (by decide), iteF ?_⟩
      by_cases c30 : ps.length < 30
      · refine ⟨_, rfl, rfl, true, dT rfl, iteT ⟨_, rfl, r, _, rfl, .inl (SqL.of o.lst), _, _, rfl, rfl, true, dT (by rw [List.length_map]; omega), iteT ?_⟩⟩
        refine ⟨_, rfl, _, rfl, ((k : Nat) : Int), rfl, r, _, rfl, SqL.of o.lst, fun p1 np1 => ?_⟩
        rw [cutV_to, ← List.map_take]
        have fp1 := Lk.new (xs := (ps.take k).map rV0) o.box np1
        have o := o.al (u := .lst ((ps.take k).map rV0)) np1
        generalize hG : upd H4 p1 (.lst ((ps.take k).map rV0)) = H5 at *
        clear hG
        obtain ⟨pk, hpk⟩ : ∃ p, ps[k]? = some p := ⟨_, List.getElem?_eq_getElem hk⟩
        have hpv : (ps.map rV0)[k]? = some (.ref pk.1) := by rw [List.getElem?_map, hpk]; rfl
        refine ⟨_, rfl, _, rfl, _, rfl, r, _, ((k : Nat) : Int), .ref pk.1, rfl, rfl, SqL.of o.lst, atI_nat hpv, by show 2 ≤ sizeLine; decide, fun p2 np2 => ?_⟩
        have fp2 := Lk.new (xs := [V.ref q, V.ref pk.1]) o.box np2
        have fp1 := fp1.go (kb_new (o := .lst ([V.ref q, V.ref pk.1])) np2)
        have o := o.al (u := .lst ([V.ref q, V.ref pk.1])) np2
        generalize hG : upd H5 p2 (.lst ([V.ref q, V.ref pk.1])) = H6 at *
        clear hG
        refine ⟨_, rfl, b, l, 2, rfl, o.box, by decide, by decide, fun t H7 t0 t1 hB7 x7 => ?_⟩
        have o := o.go x7 hB7
        have fp1 := fp1.go x7
        have fp2 := fp2.go x7
        obtain ⟨u, hu, eu⟩ := pick (xs := [((q, rw_) : RwP), pk]) (i := t) t0 t1
        have hu2 : u ∈ ps ∨ u ∈ [((q, rw_) : RwP)] := by
          simp only [List.mem_cons, List.not_mem_nil, or_false] at hu
          rcases hu with e | e
          · exact .inr (by rw [e]; exact List.mem_singleton.mpr rfl)
          · exact .inl (by rw [e]; exact List.mem_of_getElem? hpk)
        refine ⟨p2, _, t, .ref u.1, rfl, rfl, SqL.of fp2.1, atI_map (f := rV0) eu, by show 1 ≤ sizeLine; decide, fun p3 np3 => ?_⟩
        have fp3 := Lk.new (xs := [V.ref u.1]) o.box np3
        have fp1 := fp1.go (kb_new (o := .lst ([V.ref u.1])) np3)
        have fp2 := fp2.go (kb_new (o := .lst ([V.ref u.1])) np3)
        have o := o.al (u := .lst ([V.ref u.1])) np3
        generalize hG : upd H7 p3 (.lst ([V.ref u.1])) = H8 at *
        clear hG
        refine ⟨p1, p3, _, _, rfl, rfl, fp1.1, fp3.1, by simp only [List.length_append, List.length_map, List.length_take, List.length_drop, List.length_cons, List.length_nil, List.length_reverse]; omega, fun p4 np4 => ?_⟩
        have fp4 := Lk.new (xs := (ps.take k).map rV0 ++ [V.ref u.1]) o.box np4
        have fp1 := fp1.go (kb_new (o := .lst ((ps.take k).map rV0 ++ [V.ref u.1])) np4)
        have fp2 := fp2.go (kb_new (o := .lst ((ps.take k).map rV0 ++ [V.ref u.1])) np4)
        have fp3 := fp3.go (kb_new (o := .lst ((ps.take k).map rV0 ++ [V.ref u.1])) np4)
        have o := o.al (u := .lst ((ps.take k).map rV0 ++ [V.ref u.1])) np4
        generalize hG : upd H8 p4 (.lst ((ps.take k).map rV0 ++ [V.ref u.1])) = H9 at *
        clear hG
        refine ⟨_, rfl, _, rfl, ((k : Nat) : Int), rfl, r, _, rfl, SqL.of o.lst, fun p5 np5 => ?_⟩
        rw [cutV_from, ← List.map_drop]
        have fp5 := Lk.new (xs := (ps.drop k).map rV0) o.box np5
        have fp1 := fp1.go (kb_new (o := .lst ((ps.drop k).map rV0)) np5)
        have fp2 := fp2.go (kb_new (o := .lst ((ps.drop k).map rV0)) np5)
        have fp3 := fp3.go (kb_new (o := .lst ((ps.drop k).map rV0)) np5)
        have fp4 := fp4.go (kb_new (o := .lst ((ps.drop k).map rV0)) np5)
        have o := o.al (u := .lst ((ps.drop k).map rV0)) np5
        generalize hG : upd H9 p5 (.lst ((ps.drop k).map rV0)) = H10 at *
        clear hG
        have ol := o.len
        have op := o.pos
        refine ⟨p4, p5, _, _, rfl, rfl, fp4.1, fp5.1, by simp only [List.length_append, List.length_map, List.length_take, List.length_drop, List.length_cons, List.length_nil, List.length_reverse]; omega, fun p6 np6 => ?_⟩
        have eq : (ps.take k).map rV0 ++ [V.ref u.1] ++ (ps.drop k).map rV0 = (ps.take k ++ [u] ++ ps.drop k).map rV0 := by simp only [List.map_append, List.map_take, List.map_drop, List.map_reverse, List.map_cons, List.map_nil]
        rw [eq]
        have o := o.new (qs := ps.take k ++ [u] ++ ps.drop k) np6 (fun p hp => ?_) ?_ ?_
        rotate_left
        · rcases List.mem_append.mp hp with hp | hp
          · rcases List.mem_append.mp hp with hp | hp
            · exact .inl (List.mem_of_mem_take hp)
            · exact (by rw [List.mem_singleton.mp hp]; exact hu2)
          · exact .inl (List.mem_of_mem_drop hp)
        · simp only [List.length_append, List.length_take, List.length_drop, List.length_cons, List.length_nil, List.length_reverse]; omega
        · simp only [List.length_append, List.length_take, List.length_drop, List.length_cons, List.length_nil, List.length_reverse]; omega
        refine ⟨_, rfl, rfl, false, dF (by decide), iteF ?_⟩
        refine ⟨_, rfl, rfl, false, dF (by decide), iteF ?_⟩
        refine ⟨_, rfl, rfl, false, dF (by decide), iteF ?_⟩
        exact ⟨_, _, _, _, _, _, rfl, o⟩
      · refine ⟨_, rfl, rfl, true, dT rfl, iteT ⟨_, rfl, r, _, rfl, .inl (SqL.of o.lst), _, _, rfl, rfl, false, dF (by rw [List.length_map]; omega), iteF ?_⟩⟩
        refine ⟨_, rfl, rfl, false, dF (by decide), iteF ?_⟩
        refine ⟨_, rfl, rfl, false, dF (by decide), iteF ?_⟩
        refine ⟨_, rfl, rfl, false, dF (by decide), iteF ?_⟩
        exact ⟨_, _, _, _, _, _, rfl, o.less⟩
    · refine ⟨_, rfl, rfl, false, dF (by decide), iteF ?_⟩
      refine ⟨_, rfl, rfl, false, dF (by decide), iteF ?_⟩
      by_cases c1 : 1 < ps.length
      · refine ⟨_, rfl, rfl, true, dT rfl, iteT ⟨_, rfl, r, _, rfl, .inl (SqL.of o.lst), _, _, rfl, rfl, true, dT (by rw [List.length_map]; omega), iteT ?_⟩⟩
        obtain ⟨pk, hpk⟩ : ∃ p, ps[k]? = some p := ⟨_, List.getElem?_eq_getElem hk⟩
        have hpv : (ps.map rV0)[k]? = some (.ref pk.1) := by rw [List.getElem?_map, hpk]; rfl
        have ol := o.len
        refine ⟨_, rfl, .inl ⟨rfl, _, SqL.of o.lst⟩, _, rfl, r, _, ((k : Nat) : Int), k, .ref pk.1, rfl, rfl, o.lst, by omega, by omega, (ixN_seq (ixN_at (by rw [List.length_map]; exact hk))).1, hpv, ?_⟩
        have eq : (ps.map rV0).eraseIdx k = (ps.eraseIdx k).map rV0 := erase_map ps k
        rw [eq]
        have le := List.length_eraseIdx_of_lt hk
        have o := o.put (qs := ps.eraseIdx k) (fun p hp => .inl (List.mem_of_mem_eraseIdx hp)) (by omega) (by omega)
        refine ⟨_, rfl, rfl, false, dF (by decide), iteF ?_⟩
        refine ⟨_, rfl, rfl, false, dF (by decide), iteF ?_⟩
        exact ⟨_, _, _, _, _, _, rfl, o⟩
      · refine ⟨_, rfl, rfl, true, dT rfl, iteT ⟨_, rfl, r, _, rfl, .inl (SqL.of o.lst), _, _, rfl, rfl, false, dF (by rw [List.length_map]; omega), iteF ?_⟩⟩
        refine ⟨_, rfl, rfl, false, dF (by decide), iteF ?_⟩
        refine ⟨_, rfl, rfl, false, dF (by decide), iteF ?_⟩
        exact ⟨_, _, _, _, _, _, rfl, o.less⟩
    · refine ⟨_, rfl, rfl, false, dF (by decide), iteF ?_⟩
      refine ⟨_, rfl, rfl, false, dF (by decide), iteF ?_⟩
      refine ⟨_, rfl, rfl, false, dF (by decide), iteF ?_⟩
      refine ⟨_, rfl, rfl, true, dT rfl, iteT ⟨_, rfl, _, rfl, ((k : Nat) : Int), rfl, r, _, rfl, SqL.of o.lst, fun p1 np1 => ?_⟩⟩
      rw [cutV_to, ← List.map_take]
      have fp1 := Lk.new (xs := (ps.take k).map rV0) o.box np1
      have o := o.al (u := .lst ((ps.take k).map rV0)) np1
      generalize hG : upd H4 p1 (.lst ((ps.take k).map rV0)) = H5 at *
      clear hG
      refine ⟨_, rfl, _, rfl, ((k : Nat) : Int), rfl, _, rfl, _, _, rfl, rfl, ((k + 2 : Nat) : Int), rfl, r, _, rfl, SqL.of o.lst, fun p2 np2 => ?_⟩
      rw [cutV_mid _ (by rw [List.length_map]; omega), Nat.add_sub_cancel_left, ← List.map_drop, ← List.map_take]
      have fp2 := Lk.new (xs := ((ps.drop k).take 2).map rV0) o.box np2
      have fp1 := fp1.go (kb_new (o := .lst (((ps.drop k).take 2).map rV0)) np2)
      have o := o.al (u := .lst (((ps.drop k).take 2).map rV0)) np2
      generalize hG : upd H5 p2 (.lst (((ps.drop k).take 2).map rV0)) = H6 at *
      clear hG
      refine ⟨p2, _, rfl, SqL.of fp2.1, fun p3 np3 => ?_⟩
      have fp3 := Lk.new (xs := (((ps.drop k).take 2).map rV0).reverse) o.box np3
      have fp1 := fp1.go (kb_new (o := .lst ((((ps.drop k).take 2).map rV0).reverse)) np3)
      have fp2 := fp2.go (kb_new (o := .lst ((((ps.drop k).take 2).map rV0).reverse)) np3)
      have o := o.al (u := .lst ((((ps.drop k).take 2).map rV0).reverse)) np3
      generalize hG : upd H6 p3 (.lst ((((ps.drop k).take 2).map rV0).reverse)) = H7 at *
      clear hG
      refine ⟨p1, p3, _, _, rfl, rfl, fp1.1, fp3.1, by simp only [List.length_append, List.length_map, List.length_take, List.length_drop, List.length_cons, List.length_nil, List.length_reverse]; omega, fun p4 np4 => ?_⟩
      have fp4 := Lk.new (xs := (ps.take k).map rV0 ++ (((ps.drop k).take 2).map rV0).reverse) o.box np4
      have fp1 := fp1.go (kb_new (o := .lst ((ps.take k).map rV0 ++ (((ps.drop k).take 2).map rV0).reverse)) np4)
      have fp2 := fp2.go (kb_new (o := .lst ((ps.take k).map rV0 ++ (((ps.drop k).take 2).map rV0).reverse)) np4)
      have fp3 := fp3.go (kb_new (o := .lst ((ps.take k).map rV0 ++ (((ps.drop k).take 2).map rV0).reverse)) np4)
      have o := o.al (u := .lst ((ps.take k).map rV0 ++ (((ps.drop k).take 2).map rV0).reverse)) np4
      generalize hG : upd H7 p4 (.lst ((ps.take k).map rV0 ++ (((ps.drop k).take 2).map rV0).reverse)) = H8 at *
      clear hG
      refine ⟨_, rfl, _, rfl, _, _, rfl, rfl, ((k + 2 : Nat) : Int), rfl, r, _, rfl, SqL.of o.lst, fun p5 np5 => ?_⟩
      rw [cutV_from, ← List.map_drop]
      have fp5 := Lk.new (xs := (ps.drop (k + 2)).map rV0) o.box np5
      have fp1 := fp1.go (kb_new (o := .lst ((ps.drop (k + 2)).map rV0)) np5)
      have fp2 := fp2.go (kb_new (o := .lst ((ps.drop (k + 2)).map rV0)) np5)
      have fp3 := fp3.go (kb_new (o := .lst ((ps.drop (k + 2)).map rV0)) np5)
      have fp4 := fp4.go (kb_new (o := .lst ((ps.drop (k + 2)).map rV0)) np5)
      have o := o.al (u := .lst ((ps.drop (k + 2)).map rV0)) np5
      generalize hG : upd H8 p5 (.lst ((ps.drop (k + 2)).map rV0)) = H9 at *
      clear hG
      have ol := o.len
      have op := o.pos
      refine ⟨p4, p5, _, _, rfl, rfl, fp4.1, fp5.1, by simp only [List.length_append, List.length_map, List.length_take, List.length_drop, List.length_cons, List.length_nil, List.length_reverse]; omega, fun p6 np6 => ?_⟩
      have eq : (ps.take k).map rV0 ++ (((ps.drop k).take 2).map rV0).reverse ++ (ps.drop (k + 2)).map rV0 = (ps.take k ++ ((ps.drop k).take 2).reverse ++ ps.drop (k + 2)).map rV0 := by simp only [List.map_append, List.map_take, List.map_drop, List.map_reverse, List.map_cons, List.map_nil]
      rw [eq]
      have o := o.new (qs := ps.take k ++ ((ps.drop k).take 2).reverse ++ ps.drop (k + 2)) np6 (fun p hp => ?_) ?_ ?_
      rotate_left
      · rcases List.mem_append.mp hp with hp | hp
        · rcases List.mem_append.mp hp with hp | hp
          · exact .inl (List.mem_of_mem_take hp)
          · exact .inl (List.mem_of_mem_drop (List.mem_of_mem_take (List.mem_reverse.mp hp)))
        · exact .inl (List.mem_of_mem_drop hp)
      · simp only [List.length_append, List.length_take, List.length_drop, List.length_cons, List.length_nil, List.length_reverse]; omega
      · simp only [List.length_append, List.length_take, List.length_drop, List.length_cons, List.length_nil, List.length_reverse]; omega
      refine ⟨_, rfl, rfl, false, dF (by decide), iteF ?_⟩
      exact ⟨_, _, _, _, _, _, rfl, o⟩
    · refine ⟨_, rfl, rfl, false, dF (by decide), iteF ?_⟩
      refine ⟨_, rfl, rfl, false, dF (by decide), iteF ?_⟩
      refine ⟨_, rfl, rfl, false, dF (by decide), iteF ?_⟩
      refine ⟨_, rfl, rfl, false, dF (by decide), iteF ?_⟩
      refine ⟨_, rfl, rfl, true, dT rfl, iteT ⟨_, rfl, _, rfl, ((k : Nat) : Int), rfl, r, _, rfl, SqL.of o.lst, fun p1 np1 => ?_⟩⟩
      rw [cutV_from, ← List.map_drop]
      have fp1 := Lk.new (xs := (ps.drop k).map rV0) o.box np1
      have o := o.al (u := .lst ((ps.drop k).map rV0)) np1
      generalize hG : upd H4 p1 (.lst ((ps.drop k).map rV0)) = H5 at *
      clear hG
      refine ⟨_, rfl, _, rfl, ((k : Nat) : Int), rfl, r, _, rfl, SqL.of o.lst, fun p2 np2 => ?_⟩
      rw [cutV_to, ← List.map_take]
      have fp2 := Lk.new (xs := (ps.take k).map rV0) o.box np2
      have fp1 := fp1.go (kb_new (o := .lst ((ps.take k).map rV0)) np2)
      have o := o.al (u := .lst ((ps.take k).map rV0)) np2
      generalize hG : upd H5 p2 (.lst ((ps.take k).map rV0)) = H6 at *
      clear hG
      have ol := o.len
      have op := o.pos
      refine ⟨p1, p2, _, _, rfl, rfl, fp1.1, fp2.1, by simp only [List.length_append, List.length_map, List.length_take, List.length_drop, List.length_cons, List.length_nil, List.length_reverse]; omega, fun p6 np6 => ?_⟩
      have eq : (ps.drop k).map rV0 ++ (ps.take k).map rV0 = (ps.drop k ++ ps.take k).map rV0 := by simp only [List.map_append, List.map_take, List.map_drop, List.map_reverse, List.map_cons, List.map_nil]
      rw [eq]
      have o := o.new (qs := ps.drop k ++ ps.take k) np6 (fun p hp => ?_) ?_ ?_
      rotate_left
      · rcases List.mem_append.mp hp with hp | hp
        · exact .inl (List.mem_of_mem_drop hp)
        · exact .inl (List.mem_of_mem_take hp)
      · simp only [List.length_append, List.length_take, List.length_drop]; omega
      · simp only [List.length_append, List.length_take, List.length_drop]; omega
      exact ⟨_, _, _, _, _, _, rfl, o⟩
end
end TGK

namespace TGK
open TG RT
open PySem PySem.Spec PyProof.Rows L2 NdefX GenW Gx Lv
abbrev s_needs : Stmt := top 28
/-! ### the fewest steps, told again -/
theorem ed_one : ∀ (a : RT.Row) (p : List RT.Row), ed p (a :: p) ≤ 1
  | a, [] => by rw [ed_nil]; exact Nat.le_refl _
  | a, x :: p => by
    rw [ed_cons, ed_self]
    omega
theorem ed_same (a : RT.Row) (p o : List RT.Row) : ed (a :: p) (a :: o) = ed p o := by
  have h1 := ed_tri _ p (a :: p) o (Nat.le_refl _)
  have h2 := ed_one a p
  have h3 := ed_tri _ p (a :: o) o (Nat.le_refl _)
  have h4 : ed (a :: o) o ≤ 1 := by
    rw [ed_symm _ _ _ (Nat.le_refl _)]
    exact ed_one a o
  rw [ed_cons, if_pos rfl]
  omega
theorem ed_unlike {a b : RT.Row} (h : a ≠ b) (p o : List RT.Row) : ed (a :: p) (b :: o) = 1 + min (ed p o) (min (ed (a :: p) o) (ed p (b :: o))) := by
  rw [ed_cons, if_neg h]
  omega
structure NdT (H1 : Hp) (P O : List RT.Row) (D : Addr) (n : Nat) (dn : Nat → Nat → Prop) (H : Hp) : Prop where
  sm : Same H1 H
  nD : H1 D = none
  dt : ∃ kvs : List (List Key × V), H D = some (.dT kvs) ∧ kvs.length ≤ n ∧ (∀ i j, dn i j → valV kvs (ky i j) = some (.int ((ed (P.drop i) (O.drop j) : Nat) : Int))) ∧ ∀ i j, ¬ dn i j → valV kvs (ky i j) = none
theorem ky_ne {a b i j : Nat} (e : ¬ (a = i ∧ b = j)) : ky a b ≠ ky i j := fun q => by
  apply e
  injection q with q1 q2
  injection q2 with q2 _
  injection q1 with q1
  injection q2 with q2
  exact ⟨Int.ofNat.inj q1, Int.ofNat.inj q2⟩
theorem NdT.grow {H1 H H' : Hp} {P O : List RT.Row} {D : Addr} {n : Nat} {dn : Nat → Nat → Prop} (p : NdT H1 P O D n dn H) (x : Same H H') : NdT H1 P O D n dn H' := by
  obtain ⟨kvs, h1, h2⟩ := p.dt
  exact ⟨same_trans p.sm x, p.nD, kvs, x _ _ h1, h2⟩
theorem NdT.to {H1 H : Hp} {P O : List RT.Row} {D : Addr} {n m : Nat} {dn dm : Nat → Nat → Prop} (p : NdT H1 P O D n dn H) (h : n ≤ m) (hd : ∀ i j, dm i j ↔ dn i j) : NdT H1 P O D m dm H := by
  obtain ⟨kvs, h1, h2, h3, h4⟩ := p.dt
  exact ⟨p.sm, p.nD, kvs, h1, by omega, fun i j z => h3 i j ((hd i j).mp z), fun i j z => h4 i j fun w => z ((hd i j).mpr w)⟩
theorem NdT.get {H1 H : Hp} {P O : List RT.Row} {D t : Addr} {n a b : Nat} {dn : Nat → Nat → Prop} (h : NdT H1 P O D n dn H) (d : dn a b) (ht : H t = some (.tup [.int (a : Nat), .int (b : Nat)])) : DGet H D (.ref t) (some (.int ((ed (P.drop a) (O.drop b) : Nat) : Int))) := by
  obtain ⟨kvs, h1, _, h3, _⟩ := h.dt
  rw [← h3 a b d]
  exact DGet.t (k := ky a b) h1 ht
theorem NdT.put {H1 H : Hp} {P O : List RT.Row} {D t : Addr} {n i j : Nat} {dn dm : Nat → Nat → Prop} {x : Int} (p : NdT H1 P O D n dn H) (hx : x = ((ed (P.drop i) (O.drop j) : Nat) : Int)) (ht : H t = some (.tup [.int (i : Nat), .int (j : Nat)])) (hn : n < sizeLine) (hd : ∀ a b, dm a b ↔ dn a b ∨ (a = i ∧ b = j)) :
    ∃ H', DPut H D (.ref t) (.int x) H' ∧ NdT H1 P O D (n + 1) dm H' := by
  subst hx
  obtain ⟨kvs, h1, h2, h3, h4⟩ := p.dt
  refine ⟨_, DPut.t (k := ky i j) h1 ht (by omega), fun b u e => by rw [upd_ne (ne_of_none e p.nD)]; exact p.sm b u e, p.nD, _, upd_same, Nat.le_trans (putK_len _ _ _) (by omega), fun a b z => ?_, fun a b z => ?_⟩
  · by_cases e : a = i ∧ b = j
    · obtain ⟨rfl, rfl⟩ := e
      rw [valV_put, if_pos rfl]
    · rw [valV_put, if_neg (ky_ne e)]
      exact h3 a b (((hd a b).mp z).resolve_right e)
  · have e : ¬ (a = i ∧ b = j) := fun e => z ((hd a b).mpr (.inr e))
    rw [valV_put, if_neg (ky_ne e)]
    exact h4 a b fun w => z ((hd a b).mpr (.inl w))
theorem min3I (a b c : Int) : nuMin3 (.int a) (.int b) (.int c) = some (.int (min (min a b) c)) := by
  have m2 : ∀ x y : Int, nuMin2 (.int x) (.int y) = some (.int (min x y)) := fun x y => by
    show some (if decide (y < x) = true then V.int y else V.int x) = some (.int (min x y))
    by_cases h : y < x
    · rw [if_pos (decide_eq_true h), Int.min_eq_right (by omega)]
    · rw [if_neg (by rw [decide_eq_false h]; simp), Int.min_eq_left (by omega)]
  unfold nuMin3
  rw [m2]
  exact m2 _ _
section
variable {P : Program} {w : World} {K : PySem.W.Frag} {mg : Str → Option Value} {base : Heap} {cs : List (Addr × Addr)}
def spNeeds (K : PySem.W.Frag) : Sp := fun vs H Q _ => ∃ (pg og : Addr) (as os : List Addr) (rp ro : List RT.Row), vs = [.ref pg, .ref og] ∧ PageAt K H pg as rp ∧ PageAt K H og os ro ∧ PgOk rp ∧ PgOk ro ∧
  ∀ D H', NdT H rp ro D 961 (fun i j => i ≤ rp.length ∧ j ≤ ro.length) H' → Q (.ref D) H'
abbrev nmNeeds : List Str := ["_law_page_here", "_law_other", "_law_found", "_law_one", "_law_two"]
theorem sc_needs : FnScope nmNeeds ["_law_page_here", "_law_other"] (defScope s_needs) := ⟨rfl, rfl, rfl, by decide +kernel, rfl, by decide +kernel, by decide +kernel⟩
theorem ok_needs {f : Addr} {fd : FuncData} (T : Txt mg) (F : Fun K "_law_needs" "_law_needs" s_needs f fd) : FnOk P w K mg base CX0 1 f fd ["_law_page_here", "_law_other"] (spNeeds K) := by
  refine F.ok sc_needs (fun vs H Q E h => ?_) (fun cdv A outer s H vs Q E hr h => ?_)
  · obtain ⟨pg, og, _, _, _, _, rfl, _⟩ := h
    rfl
  · obtain ⟨pg, og, as, os, rp, ro, rfl, hP, hO, gP, gO, k⟩ := h
    have nd := sc_needs.nd
    have hu := hr.units
    have szl : (9000 : Nat) < sizeLine := by decide
    have hu1 : (A.deeper (envOfC (Str.ofString "_law_needs") (defScope s_needs) s.heap.objs.size f cdv)).units + 1 < cLine := by omega
    refine ⟨_, (pss_cons (ps_set (i := 2) nd rfl (.inl rfl) pe_dnewT)
      (pss_cons (ps_for PassesOwn.never rfl (pi_range3 (by rfl) T.range (pa_cons (pe_callB call_len_seq (by rfl) T.len PySem.boot_len (pa_cons (pv 0) pa_nil)) (pa_cons (pe_un un_neg pe_int) (pa_cons (pe_un un_neg pe_int) pa_nil)))) (pg_name (i := 3) nd rfl (.inl rfl))
      (pss_one (ps_for PassesOwn.never rfl (pi_range3 (by rfl) T.range (pa_cons (pe_callB call_len_seq (by rfl) T.len PySem.boot_len (pa_cons (pv 1) pa_nil)) (pa_cons (pe_un un_neg pe_int) (pa_cons (pe_un un_neg pe_int) pa_nil)))) (pg_name (i := 4) nd rfl (.inl rfl))
      (pss_one (ps_if (PW.pt (pw_or (pt_cmpR op_eq (pv 3) (pe_callB call_len_seq (by rfl) T.len PySem.boot_len (pa_cons (pv 0) pa_nil)) (nomark _)) (pw_or1 (pt_cmpR op_eq (pv 4) (pe_callB call_len_seq (by rfl) T.len PySem.boot_len (pa_cons (pv 1) pa_nil)) (nomark _))))) (pss_one (ps_dput hu1 (pv 2) (pe_tup (pa_cons (pv 3) (pa_cons (pv 4) pa_nil))) (pe_op op_sub (pe_op op_add (pe_op op_sub (pe_callB call_len_seq (by rfl) T.len PySem.boot_len (pa_cons (pv 0) pa_nil)) (pv 3)) (pe_callB call_len_seq (by rfl) T.len PySem.boot_len (pa_cons (pv 1) pa_nil))) (pv 4)) rfl)) (pss_one (ps_if (pt_cmpR (op_eqD hu) (pe_ix ix_list (pv 0) (pv 3) (fun _ _ => rfl)) (pe_ix ix_list (pv 1) (pv 4) (fun _ _ => rfl)) (nomark _)) (pss_one (ps_dput hu1 (pv 2) (pe_tup (pa_cons (pv 3) (pa_cons (pv 4) pa_nil))) (pe_dget hu1 (pv 2) (pe_tup (pa_cons (pe_op op_add (pv 3) pe_int) (pa_cons (pe_op op_add (pv 4) pe_int) pa_nil))) (fun _ _ => rfl)) rfl)) (pss_one (ps_dput hu1 (pv 2) (pe_tup (pa_cons (pv 3) (pa_cons (pv 4) pa_nil))) (pe_op op_add pe_int (pe_callB (call_min3Nu rfl) (by rfl) T.min (by decide +kernel) (pa_cons (pe_dget hu1 (pv 2) (pe_tup (pa_cons (pe_op op_add (pv 3) pe_int) (pa_cons (pe_op op_add (pv 4) pe_int) pa_nil))) (fun _ _ => rfl)) (pa_cons (pe_dget hu1 (pv 2) (pe_tup (pa_cons (pv 3) (pa_cons (pe_op op_add (pv 4) pe_int) pa_nil))) (fun _ _ => rfl)) (pa_cons (pe_dget hu1 (pv 2) (pe_tup (pa_cons (pe_op op_add (pv 3) pe_int) (pa_cons (pv 4) pa_nil))) (fun _ _ => rfl)) pa_nil))))) rfl)))))))))
      (pss_one (ps_ret (pv 2))))), ?_⟩
    have lp : (as.map V.ref).length = rp.length := by rw [List.length_map, hP.len]
    have lo : (os.map V.ref).length = ro.length := by rw [List.length_map, hO.len]
    have hR : ∀ n : Nat, n ≤ 30 → RgC ((n : Nat) : Int) (-1) (-1) (n + 1) := fun n hn => by
      have := RgC.neg (i := ((n : Nat) : Int)) (j := -1) (by omega) (by omega) (by omega) (by omega)
      have e : (((n : Nat) : Int) - (-1)).toNat = n + 1 := by omega
      rw [e] at this
      exact this
    have p30 := gP.len
    have o30 := gO.len
    refine fun D nD => ?_
    have o0 : NdT H rp ro D 0 (fun i j => i ≤ rp.length ∧ j ≤ ro.length ∧ rp.length < i + 0) (upd H D (.dT [])) := ⟨same_new nD, nD, [], upd_same, Nat.le_refl _, fun i j z => by omega, fun i j z => rfl⟩
    generalize upd H D (.dT []) = H2 at o0 ⊢
    refine ⟨_, rfl, pg, _, rfl, .inl (same_sqL o0.sm hP.lst), _, rfl, _, rfl, _, _, _, rp.length + 1, rfl, by rw [lp]; exact hR _ p30, for_rangeC (n := rp.length + 1) (fun a σ H' => NdT H rp ro D (a * 31) (fun i j => i ≤ rp.length ∧ j ≤ ro.length ∧ rp.length < i + a) H' ∧ ∃ c3 c4 : Option V, σ = [some (.ref pg), some (.ref og), some (.ref D), c3, c4])
      ⟨o0.to (by omega) fun i j => Iff.rfl, none, none, rfl⟩ ?_ ?_⟩
    rotate_left
    · rintro σ H3 ⟨o1, c3, c4, rfl⟩
      exact ⟨_, rfl, k D H3 (o1.to (by omega) fun i j => ⟨fun z => ⟨z.1, z.2, by omega⟩, fun z => ⟨z.1, z.2.1⟩⟩)⟩
    rintro a σ H3 ha ⟨o1, c3, c4, rfl⟩
    have e0 : (((as.map V.ref).length : Nat) : Int) + ((a : Nat) : Int) * (-1) = ((rp.length - a : Nat) : Int) := by rw [lp]; omega
    rw [e0]
    generalize hi : rp.length - a = i
    have hia : rp.length = i + a := by omega
    refine ⟨_, rfl, og, _, rfl, .inl (same_sqL o1.sm hO.lst), _, rfl, _, rfl, _, _, _, ro.length + 1, rfl, by rw [lo]; exact hR _ o30, for_rangeC (n := ro.length + 1) (fun b σ H' => NdT H rp ro D (a * 31 + b) (fun i' j' => i' ≤ rp.length ∧ j' ≤ ro.length ∧ (rp.length < i' + a ∨ (rp.length = i' + a ∧ ro.length < j' + b))) H' ∧ ∃ c4 : Option V, σ = [some (.ref pg), some (.ref og), some (.ref D), some (.int ((i : Nat) : Int)), c4])
      ⟨o1.to (by omega) fun i' j' => ⟨fun z => ⟨z.1, z.2.1, by omega⟩, fun z => ⟨z.1, z.2.1, by omega⟩⟩, _, rfl⟩ ?_ ?_⟩
    rotate_left
    · rintro σ H4 ⟨o2, c4, rfl⟩
      exact ⟨o2.to (by omega) fun i' j' => ⟨fun z => ⟨z.1, z.2.1, by omega⟩, fun z => ⟨z.1, z.2.1, by omega⟩⟩, _, _, rfl⟩
    clear o1 o0
    rintro b σ H4 hb ⟨o1, c4, rfl⟩
    have e0 : (((os.map V.ref).length : Nat) : Int) + ((b : Nat) : Int) * (-1) = ((ro.length - b : Nat) : Int) := by rw [lo]; omega
    rw [e0]
    generalize hj : ro.length - b = j
    have hjb : ro.length = j + b := by omega
    have ddn : ∀ i' j', (i' ≤ rp.length ∧ j' ≤ ro.length ∧ (rp.length < i' + a ∨ (rp.length = i' + a ∧ ro.length < j' + (b + 1)))) ↔ (i' ≤ rp.length ∧ j' ≤ ro.length ∧ (rp.length < i' + a ∨ (rp.length = i' + a ∧ ro.length < j' + b))) ∨ (i' = i ∧ j' = j) := fun i' j' => by omega
    have hPs := same_sqL o1.sm hP.lst
    have hOs := same_sqL o1.sm hO.lst
    have edge : (i = rp.length ∨ j = ro.length) → ((((as.map V.ref).length : Nat) : Int) - ((i : Nat) : Int) + (((os.map V.ref).length : Nat) : Int) - ((j : Nat) : Int)) = ((ed (rp.drop i) (ro.drop j) : Nat) : Int) := fun h => by
      rw [lp, lo]
      rcases h with h | h
      · rw [List.drop_eq_nil_of_le (show rp.length ≤ i by omega), ed_nil, List.length_drop]
        omega
      · rw [List.drop_eq_nil_of_le (show ro.length ≤ j by omega), ed_nil2, List.length_drop]
        omega
    have vI : ∀ {x y : Int}, x = y → V.int x = V.int y := fun e => by rw [e]
    have vN : ∀ {x y : Int}, x ≠ y → ¬ V.int x = V.int y := fun e z => e (by injection z)
    by_cases ci : i = rp.length
    · refine ⟨_, rfl, _, rfl, pg, _, rfl, .inl hPs, rfl, true, dT (vI (by rw [lp, ci])), iteT ?_⟩
      refine ⟨_, rfl, pg, _, rfl, .inl hPs, _, rfl, _, _, rfl, rfl, _, rfl, og, _, rfl, .inl hOs, _, _, rfl, rfl, _, rfl, _, _, rfl, rfl, ?_⟩
      refine ⟨_, rfl, _, rfl, _, rfl, by show 2 ≤ sizeLine; decide, fun T9 nT9 => ?_⟩
      have sT := same_new (o := .tup [.int ((i : Nat) : Int), .int ((j : Nat) : Int)]) nT9
      obtain ⟨H9, dp, o9⟩ := (o1.grow sT).put (i := i) (j := j) (edge (.inl ci)) upd_same (by omega) ddn
      exact ⟨D, H9, rfl, dp, o9, _, rfl⟩
    · refine ⟨_, rfl, _, rfl, pg, _, rfl, .inl hPs, rfl, false, dF (vN (by rw [lp]; omega)), iteF ?_⟩
      by_cases cj : j = ro.length
      · refine ⟨_, rfl, _, rfl, og, _, rfl, .inl hOs, rfl, true, dT (vI (by rw [lo, cj])), iteT ?_⟩
        refine ⟨_, rfl, pg, _, rfl, .inl hPs, _, rfl, _, _, rfl, rfl, _, rfl, og, _, rfl, .inl hOs, _, _, rfl, rfl, _, rfl, _, _, rfl, rfl, ?_⟩
        refine ⟨_, rfl, _, rfl, _, rfl, by show 2 ≤ sizeLine; decide, fun T9 nT9 => ?_⟩
        have sT := same_new (o := .tup [.int ((i : Nat) : Int), .int ((j : Nat) : Int)]) nT9
        obtain ⟨H9, dp, o9⟩ := (o1.grow sT).put (i := i) (j := j) (edge (.inr cj)) upd_same (by omega) ddn
        exact ⟨D, H9, rfl, dp, o9, _, rfl⟩
      · refine ⟨_, rfl, _, rfl, og, _, rfl, .inl hOs, rfl, false, dF (vN (by rw [lo]; omega)), iteF ?_⟩
        have hil : i < rp.length := by omega
        have hjl : j < ro.length := by omega
        obtain ⟨qp, hpv, hpr⟩ : ∃ q, (as.map V.ref)[i]? = some (.ref q) ∧ SqT K H q (sV (rp.getD i [])) := ⟨as[i]'(by have := hP.len; omega), by rw [List.getElem?_map, List.getElem?_eq_getElem]; rfl, hP.row i _ _ (List.getElem?_eq_getElem _) (getD_get hil)⟩
        obtain ⟨qo, hqv, hqr⟩ : ∃ q, (os.map V.ref)[j]? = some (.ref q) ∧ SqT K H q (sV (ro.getD j [])) := ⟨os[j]'(by have := hO.len; omega), by rw [List.getElem?_map, List.getElem?_eq_getElem]; rfl, hO.row j _ _ (List.getElem?_eq_getElem _) (getD_get hjl)⟩
        have hpm : rp.getD i [] ∈ rp := List.mem_of_getElem? (getD_get hil)
        have hqm : ro.getD j [] ∈ ro := List.mem_of_getElem? (getD_get hjl)
        have d1 := drop_get hil
        have d2 := drop_get hjl
        refine ⟨_, rfl, _, rfl, pg, _, ((i : Nat) : Int), .ref qp, rfl, rfl, hPs, atI_nat hpv, _, rfl, _, rfl, og, _, ((j : Nat) : Int), .ref qo, rfl, rfl, hOs, atI_nat hqv, _, _, .tup (same_sqT o1.sm hpr) (dp_strs _), .tup (same_sqT o1.sm hqr) (dp_strs _), shape_row (gP.rows _ hpm), shape_row (gO.rows _ hqm), ?_⟩
        rw [eqv_row]
        by_cases he : rp.getD i [] = ro.getD j []
        · refine ⟨true, dT he, iteT ?_⟩
          refine ⟨_, rfl, _, rfl, _, _, rfl, rfl, _, rfl, _, _, rfl, rfl, by show 2 ≤ sizeLine; decide, fun T1 nT1 => ?_⟩
          have o1 := o1.grow (same_new (o := .tup [.int ((i + 1 : Nat) : Int), .int ((j + 1 : Nat) : Int)]) nT1)
          refine ⟨D, _, rfl, o1.get (a := i + 1) (b := j + 1) ⟨by omega, by omega, by omega⟩ upd_same, ?_⟩
          refine ⟨_, rfl, _, rfl, _, rfl, by show 2 ≤ sizeLine; decide, fun T9 nT9 => ?_⟩
          have sT := same_new (o := .tup [.int ((i : Nat) : Int), .int ((j : Nat) : Int)]) nT9
          obtain ⟨H9, dp, o9⟩ := (o1.grow sT).put (i := i) (j := j) ((by rw [d1, d2, he, ed_same] : ((ed (rp.drop (i + 1)) (ro.drop (j + 1)) : Nat) : Int) = ((ed (rp.drop i) (ro.drop j) : Nat) : Int))) upd_same (by omega) ddn
          exact ⟨D, H9, rfl, dp, o9, _, rfl⟩
        · refine ⟨false, dF he, iteF ?_⟩
          refine ⟨_, rfl, _, rfl, _, _, rfl, rfl, _, rfl, _, _, rfl, rfl, by show 2 ≤ sizeLine; decide, fun T1 nT1 => ?_⟩
          have o1 := o1.grow (same_new (o := .tup [.int ((i + 1 : Nat) : Int), .int ((j + 1 : Nat) : Int)]) nT1)
          refine ⟨D, _, rfl, o1.get (a := i + 1) (b := j + 1) ⟨by omega, by omega, by omega⟩ upd_same, ?_⟩
          refine ⟨_, rfl, _, rfl, _, rfl, _, _, rfl, rfl, by show 2 ≤ sizeLine; decide, fun T2 nT2 => ?_⟩
          have o1 := o1.grow (same_new (o := .tup [.int ((i : Nat) : Int), .int ((j + 1 : Nat) : Int)]) nT2)
          refine ⟨D, _, rfl, o1.get (a := i) (b := j + 1) ⟨by omega, by omega, by omega⟩ upd_same, ?_⟩
          refine ⟨_, rfl, _, rfl, _, _, rfl, rfl, _, rfl, by show 2 ≤ sizeLine; decide, fun T3 nT3 => ?_⟩
          have o1 := o1.grow (same_new (o := .tup [.int ((i + 1 : Nat) : Int), .int ((j : Nat) : Int)]) nT3)
          refine ⟨D, _, rfl, o1.get (a := i + 1) (b := j) ⟨by omega, by omega, by omega⟩ upd_same, ?_⟩
          refine ⟨_, _, _, _, rfl, min3I _ _ _, _, _, rfl, rfl, ?_⟩
          have eu : (1 + min (min ((ed (rp.drop (i + 1)) (ro.drop (j + 1)) : Nat) : Int) ((ed (rp.drop i) (ro.drop (j + 1)) : Nat) : Int)) ((ed (rp.drop (i + 1)) (ro.drop j) : Nat) : Int)) = ((ed (rp.drop i) (ro.drop j) : Nat) : Int) := by
            have e := ed_unlike he (rp.drop (i + 1)) (ro.drop (j + 1))
            rw [← d1, ← d2] at e
            omega
          refine ⟨_, rfl, _, rfl, _, rfl, by show 2 ≤ sizeLine; decide, fun T9 nT9 => ?_⟩
          have sT := same_new (o := .tup [.int ((i : Nat) : Int), .int ((j : Nat) : Int)]) nT9
          obtain ⟨H9, dp, o9⟩ := (o1.grow sT).put (i := i) (j := j) (eu) upd_same (by omega) ddn
          exact ⟨D, H9, rfl, dp, o9, _, rfl⟩
end
end TGK

namespace TGK
open TG RT
open PySem PySem.Spec PyProof.Rows L2 NdefX GenW Gx Lv
/-! ### the way that is due -/
theorem greedy (P O : List RT.Row) {i j : Nat} (hi : i ≤ P.length) (hj : j ≤ O.length) (hne : ¬ (i = P.length ∧ j = O.length)) :
    ∃ (k0 : Nat) (o : Opt), (optsK P O i j)[k0]? = some o ∧ plan (P.drop i) (O.drop j) j = o.1 ++ plan (P.drop o.2.1) (O.drop o.2.2) o.2.2 ∧ o.1.length + ed (P.drop o.2.1) (O.drop o.2.2) = ed (P.drop i) (O.drop j) ∧
      ∀ (k : Nat), k < k0 → ∀ (o' : Opt), (optsK P O i j)[k]? = some o' → o'.1.length + ed (P.drop o'.2.1) (O.drop o'.2.2) ≠ ed (P.drop i) (O.drop j) := by
  have hpl := plan_at P O hi hj
  have hlen : ∀ o : Opt, (fromK P O o).length = o.1.length + ed (P.drop o.2.1) (O.drop o.2.2) := fun o => by
    rw [List.length_append, plan_len _ _ _ _ (Nat.le_refl _)]
  have hne2 : optsK P O i j ≠ [] := fun e => by
    unfold optsK at e
    by_cases c : j < O.length
    · rw [if_pos c] at e
      simp at e
    · have ci : i < P.length := by omega
      rw [if_pos ci] at e
      simp at e
  generalize hls : (optsK P O i j).map (fromK P O) = ls at hpl
  have lls : ls.length = (optsK P O i j).length := by rw [← hls, List.length_map]
  have hp : 0 < ls.length := by rw [lls]; exact List.length_pos_iff.mpr hne2
  obtain ⟨h1, h2⟩ := bestLen_first (fun k => (ls.getD k []).length) hp
  generalize hk : bestLen (fun k => (ls.getD k []).length) ls.length = k0 at h1 h2
  have hg : ∀ {k : Nat} {o : Opt}, (optsK P O i j)[k]? = some o → ls.getD k [] = fromK P O o := fun {k o} e => by
    rw [List.getD_eq_getElem?_getD, ← hls, List.getElem?_map, e]
    rfl
  obtain ⟨o, ho⟩ : ∃ o, (optsK P O i j)[k0]? = some o := ⟨_, List.getElem?_eq_getElem (by omega)⟩
  have hpick : pickS ls = fromK P O o := by
    unfold pickS
    rw [hk]
    exact hg ho
  have hed := plan_len _ (P.drop i) (O.drop j) j (Nat.le_refl _)
  rw [hpick] at hpl
  refine ⟨k0, o, ho, hpl.symm, by rw [← hlen, hpl, hed], fun k hk2 o' ho' e => ?_⟩
  have hkl : k < ls.length := by omega
  have := (h2 k hkl).2 hk2
  rw [hg ho, hg ho', hlen o', e, hpl, hed] at this
  omega
/-- a step that may be none -/
def StepV (H : Hp) (os : List Addr) (v : V) (l : List Stp) : Prop := (l = [] ∧ v = .non) ∨ ∃ t s, l = [s] ∧ v = .ref t ∧ StpA H os t s
theorem StepV.same {H H' : Hp} {os : List Addr} {v : V} {l : List Stp} (h : StepV H os v l) (x : Same H H') : StepV H' os v l := h.imp id fun ⟨t, s, h1, h2, h3⟩ => ⟨t, s, h1, h2, h3.same x⟩
theorem StepV.bt {H H' : Hp} {D : Addr} {os : List Addr} {v : V} {l : List Stp} (h : StepV H os v l) (x : Bt D H H') : StepV H' os v l := h.imp id fun ⟨t, s, h1, h2, h3⟩ => ⟨t, s, h1, h2, h3.bt x⟩
def OptD (H : Hp) (os : List Addr) (t : Addr) (o : Opt) : Prop := ∃ v, H t = some (.tup [v, .int (o.2.1 : Nat), .int (o.2.2 : Nat)]) ∧ StepV H os v o.1
theorem OptD.same {H H' : Hp} {os : List Addr} {t : Addr} {o : Opt} (h : OptD H os t o) (x : Same H H') : OptD H' os t o := by
  obtain ⟨v, h1, h2⟩ := h
  exact ⟨v, x _ _ h1, h2.same x⟩
theorem OptD.bt {D t : Addr} {H H' : Hp} {os : List Addr} {o : Opt} (h : OptD H os t o) (x : Bt D H H') : OptD H' os t o := by
  obtain ⟨v, h1, h2⟩ := h
  exact ⟨v, x.tup h1, h2.bt x⟩
structure OdL (H0 : Hp) (os : List Addr) (D : Addr) (l : List Opt) (H : Hp) : Prop where
  sm : Same H0 H
  nD : H0 D = none
  ts : ∃ ts : List Addr, H D = some (.lst (ts.map V.ref)) ∧ ts.length = l.length ∧ ∀ (k : Nat) (t : Addr) (o : Opt), ts[k]? = some t → l[k]? = some o → OptD H os t o
theorem OdL.start {H0 : Hp} {os : List Addr} {D : Addr} (n : H0 D = none) : OdL H0 os D [] (upd H0 D (.lst [])) := ⟨same_new n, n, [], upd_same, rfl, fun j t v h => by cases h⟩
theorem OdL.more {H0 H H1 : Hp} {os : List Addr} {D t : Addr} {l : List Opt} {o : Opt} (ol : OdL H0 os D l H) (x : Same H H1) (ot : OptD H1 os t o) :
    ∃ acc, H1 D = some (.lst acc) ∧ acc.length = l.length ∧ OdL H0 os D (l ++ [o]) (upd H1 D (.lst (acc ++ [.ref t]))) := by
  obtain ⟨ts, h1, h2, h3⟩ := ol.ts
  have hD := x _ _ h1
  have bt : Bt D H1 (upd H1 D (.lst (ts.map V.ref ++ [.ref t]))) := bt_upd fun xs h => by rw [hD] at h; cases h
  refine ⟨_, hD, by rw [List.length_map, h2], fun b u e => by rw [upd_ne (ne_of_none e ol.nD)]; exact x _ _ (ol.sm b u e), ol.nD, ts ++ [t], by rw [upd_same]; simp, by rw [List.length_append, List.length_append, h2]; rfl, fun j s u e1 e2 => ?_⟩
  by_cases hj : j < ts.length
  · rw [List.getElem?_append_left hj] at e1
    rw [List.getElem?_append_left (by rw [← h2]; exact hj)] at e2
    exact ((h3 j s u e1 e2).same x).bt bt
  · have hl := (List.getElem?_eq_some_iff.mp e1).1
    rw [List.length_append, List.length_singleton] at hl
    have ej : j = ts.length := by omega
    subst ej
    rw [List.getElem?_append_right (Nat.le_refl _), Nat.sub_self] at e1
    rw [h2, List.getElem?_append_right (Nat.le_refl _), Nat.sub_self] at e2
    cases e1
    cases e2
    exact ot.bt bt
theorem eqv_pr (a b c d : Int) : PyData.eqv (.tuple [.int a, .int b]) (.tuple [.int c, .int d]) = decide (a = c ∧ b = d) := by
  simp only [PyData.eqv, PyData.eqvAll, Bool.and_true]
  by_cases h1 : a = c <;> by_cases h2 : b = d <;> simp [h1, h2]
theorem shape_pr (a b : Int) : SeqAt.shaped (.tuple [.int a, .int b]) = true := by rfl
theorem StpsA.ext {H : Hp} {os : List Addr} {F : Addr} {l m : List Stp} {zs : List V} (h : StpsA H os F l) (hz : (m = [] ∧ zs = []) ∨ ∃ t s, m = [s] ∧ zs = [.ref t] ∧ StpA H os t s) : ∃ xs, H F = some (.lst xs) ∧ xs.length = l.length ∧ StpsA (upd H F (.lst (xs ++ zs))) os F (l ++ m) := by
  obtain ⟨ts, h1, h2, h3⟩ := h
  have bt : ∀ {o : HO}, Bt F H (upd H F o) := bt_upd fun xs h => by rw [h1] at h; cases h
  refine ⟨_, h1, by rw [List.length_map, h2], ?_⟩
  rcases hz with ⟨rfl, rfl⟩ | ⟨t, s, rfl, rfl, hs⟩
  · rw [List.append_nil, List.append_nil]
    exact ⟨ts, upd_same, h2, fun k t s e1 e2 => (h3 k t s e1 e2).bt bt⟩
  · refine ⟨ts ++ [t], by rw [upd_same]; simp, by rw [List.length_append, List.length_append, h2]; rfl, fun k t' s' e1 e2 => ?_⟩
    by_cases hk : k < ts.length
    · rw [List.getElem?_append_left hk] at e1
      rw [List.getElem?_append_left (by rw [← h2]; exact hk)] at e2
      exact (h3 k t' s' e1 e2).bt bt
    · have hl := (List.getElem?_eq_some_iff.mp e1).1
      rw [List.length_append, List.length_singleton] at hl
      have ek : k = ts.length := by omega
      subst ek
      rw [List.getElem?_append_right (Nat.le_refl _), Nat.sub_self] at e1
      rw [h2, List.getElem?_append_right (Nat.le_refl _), Nat.sub_self] at e2
      cases e1
      cases e2
      exact hs.bt bt
end TGK

namespace TGK
open TG RT
open PySem PySem.Spec PyProof.Rows L2 NdefX GenW Gx Lv
abbrev s_duew : Stmt := top 29
theorem cutS (G C : L2.St → Hp → Prop) {X : Prop} (f : (∀ σ H, C σ H → G σ H) → X) (g : ∀ σ H, C σ H → G σ H) : X := f g
section
variable {P : Program} {w : World} {K : PySem.W.Frag} {mg : Str → Option Value} {base : Heap} {cs : List (Addr × Addr)}
def spDueW (K : PySem.W.Frag) : Sp := fun vs H Q _ => ∃ (pg og : Addr) (as os : List Addr) (rp ro : List RT.Row), vs = [.ref pg, .ref og] ∧ PageAt K H pg as rp ∧ PageAt K H og os ro ∧ PgOk rp ∧ PgOk ro ∧
  ∀ F H', Same H H' → H F = none → StpsA H' os F (plan rp ro 0) → Q (.ref F) H'
abbrev nmDue : List Str := ["_law_page_here", "_law_other", "_law_needs_here", "_law_found", "_law_one", "_law_two", "_law_left", "_law_some", "_law_step", "_law_mine", "_law_yours"]
theorem sc_duew : FnScope nmDue ["_law_page_here", "_law_other"] (defScope s_duew) := ⟨rfl, rfl, rfl, by decide +kernel, rfl, by decide +kernel, by decide +kernel⟩
theorem ok_duew {f gN : Addr} {fd fdN : FuncData} (T : Txt mg) (F : Fun K "_law_due" "_law_due" s_duew f fd)
    (N : FnOk P w K mg base CX0 1 gN fdN ["_law_page_here", "_law_other"] (spNeeds K)) (kN : PySem.W.keepIn K (.ref gN) = true) (bN : Binds K fdN ["_law_page_here", "_law_other"] []) (mN : mg "_law_needs" = some (.ref gN)) :
    FnOk P w K mg base CX0 2 f fd ["_law_page_here", "_law_other"] (spDueW K) := by
  refine F.ok sc_duew (fun vs H Q E h => ?_) (fun cdv A outer s H vs Q E hr h => ?_)
  · obtain ⟨pg, og, _, _, _, _, rfl, _⟩ := h
    rfl
  · obtain ⟨pg, og, as, os, rp, ro, rfl, hP, hO, gP, gO, k⟩ := h
    have nd := sc_duew.nd
    have hu := hr.units
    have r1 : Room 1 _ := hr
    have szl : (9000 : Nat) < sizeLine := by decide
    have hu1 : (A.deeper (envOfC (Str.ofString "_law_due") (defScope s_duew) s.heap.objs.size f cdv)).units + 1 < cLine := by omega
    refine ⟨_, (pss_cons (ps_set (i := 2) nd rfl (.inl rfl) (pe_call N r1 (by rfl) mN kN bN .nil pass0 (pa_cons (pv 0) (pa_cons (pv 1) pa_nil))))
      (pss_cons (ps_par3 (i := 3) (j := 4) (l := 5) rfl nd rfl rfl rfl (by decide) (by decide) (by decide) rfl rfl rfl (pa_cons (pe_lst pa_nil) (pa_cons pe_int (pa_cons pe_int pa_nil))) (by rfl))
      (pss_cons (ps_while PassesOwn.never (pt_cmpR (op_neD hu) (pe_tup (pa_cons (pv 4) (pa_cons (pv 5) pa_nil))) (pe_tup (pa_cons (pe_callB call_len_seq (by rfl) T.len PySem.boot_len (pa_cons (pv 0) pa_nil)) (pa_cons (pe_callB call_len_seq (by rfl) T.len PySem.boot_len (pa_cons (pv 1) pa_nil)) pa_nil))) (nomark _))
      (pss_cons (ps_set (i := 6) nd rfl (.inl rfl) (pe_dget hu1 (pv 2) (pe_tup (pa_cons (pv 4) (pa_cons (pv 5) pa_nil))) (fun _ _ => rfl)))
      (pss_cons (ps_set (i := 7) nd rfl (.inl rfl) (pe_lst pa_nil))
      (pss_cons (ps_if (PW.pt (pw_and (pt_cmpR op_lt (pv 4) (pe_callB call_len_seq (by rfl) T.len PySem.boot_len (pa_cons (pv 0) pa_nil)) (nomark _)) (pw_and1 (pt_cmpR op_lt (pv 5) (pe_callB call_len_seq (by rfl) T.len PySem.boot_len (pa_cons (pv 1) pa_nil)) (nomark _))))) (pss_cons (ps_if (pt_cmpR (op_eqD hu) (pe_ix ix_list (pv 0) (pv 4) (fun _ _ => rfl)) (pe_ix ix_list (pv 1) (pv 5) (fun _ _ => rfl)) (nomark _)) (pss_one (ps_expr (pe_bm PySem.F.plainAttrs_list PySem.F.slot_list_append PySem.F.type_list_append mt_append (pv 7) (pa_cons (pe_tup (pa_cons pe_non (pa_cons (pe_op op_add (pv 4) pe_int) (pa_cons (pe_op op_add (pv 5) pe_int) pa_nil)))) pa_nil)))) pss_nil)
      (pss_one (ps_expr (pe_bm PySem.F.plainAttrs_list PySem.F.slot_list_append PySem.F.type_list_append mt_append (pv 7) (pa_cons (pe_tup (pa_cons (pe_tup (pa_cons pe_str (pa_cons (pv 5) (pa_cons (pe_ix ix_list (pv 1) (pv 5) (fun _ _ => rfl)) pa_nil)))) (pa_cons (pe_op op_add (pv 4) pe_int) (pa_cons (pe_op op_add (pv 5) pe_int) pa_nil)))) pa_nil))))) pss_nil)
      (pss_cons (ps_if (pt_cmpR op_lt (pv 5) (pe_callB call_len_seq (by rfl) T.len PySem.boot_len (pa_cons (pv 1) pa_nil)) (nomark _)) (pss_one (ps_expr (pe_bm PySem.F.plainAttrs_list PySem.F.slot_list_append PySem.F.type_list_append mt_append (pv 7) (pa_cons (pe_tup (pa_cons (pe_tup (pa_cons pe_str (pa_cons (pv 5) (pa_cons (pe_ix ix_list (pv 1) (pv 5) (fun _ _ => rfl)) pa_nil)))) (pa_cons (pv 4) (pa_cons (pe_op op_add (pv 5) pe_int) pa_nil)))) pa_nil)))) pss_nil)
      (pss_cons (ps_expr (pe_bm PySem.F.plainAttrs_list PySem.F.slot_list_append PySem.F.type_list_append mt_append (pv 7) (pa_cons (pe_tup (pa_cons (pe_tup (pa_cons pe_str (pa_cons (pv 5) pa_nil))) (pa_cons (pe_op op_add (pv 4) pe_int) (pa_cons (pv 5) pa_nil)))) pa_nil)))
      (pss_one (ps_for PassesOwn.never rfl (pi_list (pv 7)) (pg_tup rfl (pgs_cons (pg_name (i := 8) nd rfl (.inl rfl)) (pgs_cons (pg_name (i := 9) nd rfl (.inl rfl)) (pgs_cons (pg_name (i := 10) nd rfl (.inl rfl)) pgs_nil))))
      (pss_one (ps_if (pt_cmpR op_eq (pe_op op_add (pe_dget2 hu1 (pv 2) (pe_tup (pa_cons (pv 9) (pa_cons (pv 10) pa_nil))) pe_int ⟨by rfl, by rfl, by rfl, by rfl⟩) (pe_callTy call_int1 (by rfl) T.int (by decide +kernel) (pa_cons (pe_cmpR op_notN (pv 8) pe_non (nomark _)) pa_nil))) (pv 6) (nomark _)) (pss_cons (ps_expr (pe_bm PySem.F.plainAttrs_list PySem.F.slot_list_extend PySem.F.type_list_extend mt_extend (pv 3) (pa_cons (pe_ifExp (pt_cmpR op_isN (pv 8) pe_non (nomark _)) (pe_lst pa_nil) (pe_lst (pa_cons (pv 8) pa_nil))) pa_nil)))
      (pss_cons (ps_par (i := 4) (j := 5) rfl nd rfl rfl (by decide) rfl rfl (pa_cons (pv 9) (pa_cons (pv 10) pa_nil)) (by rfl))
      (pss_one ps_break))) pss_nil))))))))))
      (pss_one (ps_ret (pv 3)))))), ?_⟩
    have lp : (as.map V.ref).length = rp.length := by rw [List.length_map, hP.len]
    have lo : (os.map V.ref).length = ro.length := by rw [List.length_map, hO.len]
    have p30 := gP.len
    have o30 := gO.len
    refine ⟨_, rfl, _, rfl, pg, og, as, os, rp, ro, rfl, hP, hO, gP, gO, fun Dn H1 t1 => ?_⟩
    have k : ∀ F H', Same H1 H' → H1 F = none → StpsA H' os F (plan rp ro 0) → Q (.ref F) H' := fun F H' x n h => k F H' (same_trans t1.sm x) (same_old t1.sm n) h
    have hP := hP.same t1.sm
    have hO := hO.same t1.sm
    refine ⟨small0, fun FD nF => ⟨_, _, _, rfl, ?_⟩⟩
    have f0 : StpsA (upd H1 FD (.lst [])) os FD [] := ⟨[], upd_same, rfl, fun k t s e => by cases e⟩
    have sF : Same H1 (upd H1 FD (.lst [])) := same_new nF
    generalize upd H1 FD (.lst []) = H2 at f0 sF ⊢
    refine ⟨fun m σ H' => ∃ (i j : Nat) (acc : List Stp) (c6 c7 c8 c9 c10 : Option V), m + (i + j) = rp.length + ro.length ∧ i ≤ rp.length ∧ j ≤ ro.length ∧ plan rp ro 0 = acc ++ plan (rp.drop i) (ro.drop j) j ∧
      σ = [some (.ref pg), some (.ref og), some (.ref Dn), some (.ref FD), some (.int ((i : Nat) : Int)), some (.int ((j : Nat) : Int)), c6, c7, c8, c9, c10] ∧ Same H1 H' ∧ StpsA H' os FD acc,
      ⟨rp.length + ro.length, 0, 0, [], none, none, none, none, none, rfl, Nat.zero_le _, Nat.zero_le _, rfl, rfl, sF, f0⟩, ?_⟩
    clear f0 sF H2
    rintro m σ H2 ⟨i, j, acc, c6, c7, c8, c9, c10, hm, hi, hj, hpl, rfl, s2, hF⟩
    refine ⟨_, rfl, _, rfl, by show 2 ≤ sizeLine; decide, fun T1 n1 => ⟨_, rfl, pg, _, rfl, .inl (same_sqL (same_trans s2 (same_new n1)) hP.lst), _, rfl, og, _, rfl, .inl (same_sqL (same_trans s2 (same_new n1)) hO.lst), by show 2 ≤ sizeLine; decide, fun T2 n2 => ?_⟩⟩
    have x1 := same_new (o := .tup [.int ((i : Nat) : Int), .int ((j : Nat) : Int)]) n1
    have x2 := same_new (o := .tup [.int (((as.map V.ref).length : Nat) : Int), .int (((os.map V.ref).length : Nat) : Int)]) n2
    refine ⟨_, _, .tup (SqT.of (x2 _ _ upd_same)) (.cons (.int _) (.cons (.int _) .nil)), .tup (SqT.of upd_same) (.cons (.int _) (.cons (.int _) .nil)), shape_pr _ _, shape_pr _ _, ?_⟩
    rw [eqv_pr, lp, lo]
    have s3 := same_trans x1 x2
    rw [lp, lo] at s3 x2
    have hF := hF.same s3
    have s3 := same_trans s2 s3
    generalize upd (upd H2 T1 (.tup [.int ((i : Nat) : Int), .int ((j : Nat) : Int)])) T2 (.tup [.int ((rp.length : Nat) : Int), .int ((ro.length : Nat) : Int)]) = H3 at hF s3 ⊢
    clear x1 x2 n1 n2 s2
    by_cases hend : i = rp.length ∧ j = ro.length
    · refine ⟨false, by rw [decide_eq_true ⟨by omega, by omega⟩]; rfl, ?_⟩
      refine iteF ⟨_, rfl, k FD H3 s3 nF ?_⟩
      rw [hpl, List.drop_eq_nil_of_le (show rp.length ≤ i by omega), List.drop_eq_nil_of_le (show ro.length ≤ j by omega), plan, List.append_nil]
      exact hF
    have hne : ¬ ((i : Int) = (rp.length : Nat) ∧ (j : Int) = (ro.length : Nat)) := fun z => hend ⟨by omega, by omega⟩
    refine ⟨true, by rw [decide_eq_false hne]; rfl, iteT ⟨fun σ' H' => ∃ m', m' < m ∧ ∃ (i j : Nat) (acc : List Stp) (c6 c7 c8 c9 c10 : Option V), m' + (i + j) = rp.length + ro.length ∧ i ≤ rp.length ∧ j ≤ ro.length ∧ plan rp ro 0 = acc ++ plan (rp.drop i) (ro.drop j) j ∧
      σ' = [some (.ref pg), some (.ref og), some (.ref Dn), some (.ref FD), some (.int ((i : Nat) : Int)), some (.int ((j : Nat) : Int)), c6, c7, c8, c9, c10] ∧ Same H1 H' ∧ StpsA H' os FD acc, fun σ' H' h => h, ?_⟩⟩
    obtain ⟨k0, o0, g1, g2, g3, g4⟩ := greedy rp ro hi hj hend
    -- what is left
    refine ⟨_, rfl, _, rfl, _, rfl, by show 2 ≤ sizeLine; decide, fun T1 n1 => ?_⟩
    have x1 := same_new (o := .tup [.int ((i : Nat) : Int), .int ((j : Nat) : Int)]) n1
    have t4 := t1.grow (same_trans s3 x1)
    refine ⟨Dn, _, rfl, t4.get ⟨hi, hj⟩ upd_same, ?_⟩
    have hF := hF.same x1
    have s4 := same_trans s3 x1
    generalize upd H3 T1 (.tup [.int ((i : Nat) : Int), .int ((j : Nat) : Int)]) = H4 at hF s4 t4 ⊢
    clear x1 n1 s3
    refine ⟨small0, fun SM nSM => ?_⟩
    have ol := OdL.start (os := os) nSM
    have hP := hP.same s4
    have hO := hO.same s4
    generalize hH5 : H4 = H5 at nSM ol hP hO hF s4 t4 ⊢
    clear hH5
    generalize upd H5 SM (.lst []) = H6 at ol ⊢
    refine' cutS _ (fun σ H' => ∃ xo, σ = [some (.ref pg), some (.ref og), some (.ref Dn), some (.ref FD), some (.int ((i : Nat) : Int)), some (.int ((j : Nat) : Int)), some (.int ((ed (rp.drop i) (ro.drop j) : Nat) : Int)), some (.ref SM), c8, c9, c10] ∧ OdL H5 os SM (optsK rp ro i j ++ xo) H') (fun rest => _) _
    rotate_left
    · by_cases ci : i < rp.length
      · obtain ⟨qp, hpv0, hpr⟩ : ∃ q, as[i]? = some q ∧ SqT K H5 q (sV (rp.getD i [])) := ⟨as[i]'(by have := hP.len; omega), List.getElem?_eq_getElem _, hP.row i _ _ (List.getElem?_eq_getElem _) (getD_get ci)⟩
        have hpv : (as.map V.ref)[i]? = some (.ref qp) := by rw [List.getElem?_map, hpv0]; rfl
        have hpm : rp.getD i [] ∈ rp := List.mem_of_getElem? (getD_get ci)
        by_cases cj : j < ro.length
        · obtain ⟨q, hqv0, hqr⟩ : ∃ q, os[j]? = some q ∧ SqT K H5 q (sV (ro.getD j [])) := ⟨os[j]'(by have := hO.len; omega), List.getElem?_eq_getElem _, hO.row j _ _ (List.getElem?_eq_getElem _) (getD_get cj)⟩
          have hqv : (os.map V.ref)[j]? = some (.ref q) := by rw [List.getElem?_map, hqv0]; rfl
          have hqm : ro.getD j [] ∈ ro := List.mem_of_getElem? (getD_get cj)
          by_cases he : rp.getD i [] = ro.getD j []
          · have ek : optsK rp ro i j = [([], i + 1, j + 1), ([.change j], i + 1, j + 1), ([.put j], i, j + 1), ([.take j], i + 1, j)] := by unfold optsK; rw [if_pos ⟨ci, cj⟩, if_pos he, if_pos cj, if_pos ci]; rfl
            refine ⟨_, rfl, _, rfl, pg, _, rfl, .inl (same_sqL ol.sm hP.lst), _, _, rfl, rfl, true, dT (by rw [lp]; omega), iteT ⟨_, rfl, _, rfl, og, _, rfl, .inl (same_sqL ol.sm hO.lst), _, _, rfl, rfl, true, dT (by rw [lo]; omega), iteT ?_⟩⟩
            refine ⟨_, rfl, _, rfl, pg, _, ((i : Nat) : Int), .ref qp, rfl, rfl, same_sqL ol.sm hP.lst, atI_nat hpv, _, rfl, _, rfl, og, _, ((j : Nat) : Int), .ref q, rfl, rfl, same_sqL ol.sm hO.lst, atI_nat hqv, ?_⟩
            refine ⟨_, _, .tup (same_sqT ol.sm hpr) (dp_strs _), .tup (same_sqT ol.sm hqr) (dp_strs _), shape_row (gP.rows _ hpm), shape_row (gO.rows _ hqm), ?_⟩
            rw [eqv_row]
            refine ⟨true, dT he, iteT ?_⟩
            obtain ⟨ts, hD, _⟩ := ol.ts
            refine ⟨_, rfl, .inl ⟨rfl, _, SqL.of hD⟩, _, rfl, _, _, rfl, rfl, _, rfl, _, _, rfl, rfl, by show 3 ≤ sizeLine; decide, fun T3 n3 => ?_⟩
            have s3 := same_new (o := .tup [.non, .int ((i + 1 : Nat)), .int ((j + 1 : Nat))]) n3
            obtain ⟨acc, ha, hl, om⟩ := ol.more s3 (o := ([], i + 1, j + 1)) ⟨.non, upd_same, .inl ⟨rfl, rfl⟩⟩
            refine ⟨SM, acc, _, rfl, rfl, ha, by rw [hl]; simp only [List.nil_append, List.length_append, List.length_cons, List.length_nil]; omega, ?_⟩
            clear hD
            generalize hX : upd _ SM _ = H9
            have ol : OdL H5 os SM ([] ++ [([], i + 1, j + 1)]) H9 := by rw [← hX]; exact om
            clear hX om ha
            obtain ⟨ts, hD, _⟩ := ol.ts
            refine ⟨_, rfl, .inl ⟨rfl, _, SqL.of hD⟩, _, rfl, _, rfl, _, rfl, og, _, ((j : Nat) : Int), .ref q, rfl, rfl, same_sqL ol.sm hO.lst, atI_nat hqv, by show 3 ≤ sizeLine; decide, fun T1 n1 => ⟨_, rfl, _, _, rfl, rfl, _, rfl, _, _, rfl, rfl, by show 3 ≤ sizeLine; decide, fun T3 n3 => ?_⟩⟩
            have s1 := same_new (o := .tup [.str "change", .int (j : Nat), .ref q]) n1
            have s3 := same_new (o := .tup [.ref T1, .int ((i + 1 : Nat)), .int ((j + 1 : Nat))]) n3
            obtain ⟨acc, ha, hl, om⟩ := ol.more (same_trans s1 s3) (o := ([.change j], i + 1, j + 1)) ⟨.ref T1, upd_same, .inr ⟨T1, .change j, rfl, rfl, ⟨q, hqv0, s3 _ _ upd_same⟩⟩⟩
            refine ⟨SM, acc, _, rfl, rfl, ha, by rw [hl]; simp only [List.nil_append, List.length_append, List.length_cons, List.length_nil]; omega, ?_⟩
            clear hD
            generalize hX : upd _ SM _ = H9
            have ol : OdL H5 os SM (([] ++ [([], i + 1, j + 1)]) ++ [([.change j], i + 1, j + 1)]) H9 := by rw [← hX]; exact om
            clear hX om ha
            refine ⟨_, rfl, _, rfl, og, _, rfl, .inl (same_sqL ol.sm hO.lst), _, _, rfl, rfl, true, dT (by rw [lo]; omega), iteT ?_⟩
            obtain ⟨ts, hD, _⟩ := ol.ts
            refine ⟨_, rfl, .inl ⟨rfl, _, SqL.of hD⟩, _, rfl, _, rfl, _, rfl, og, _, ((j : Nat) : Int), .ref q, rfl, rfl, same_sqL ol.sm hO.lst, atI_nat hqv, by show 3 ≤ sizeLine; decide, fun T1 n1 => ⟨_, rfl, _, rfl, _, _, rfl, rfl, by show 3 ≤ sizeLine; decide, fun T3 n3 => ?_⟩⟩
            have s1 := same_new (o := .tup [.str "put", .int (j : Nat), .ref q]) n1
            have s3 := same_new (o := .tup [.ref T1, .int ((i : Nat)), .int ((j + 1 : Nat))]) n3
            obtain ⟨acc, ha, hl, om⟩ := ol.more (same_trans s1 s3) (o := ([.put j], i, j + 1)) ⟨.ref T1, upd_same, .inr ⟨T1, .put j, rfl, rfl, ⟨q, hqv0, s3 _ _ upd_same⟩⟩⟩
            refine ⟨SM, acc, _, rfl, rfl, ha, by rw [hl]; simp only [List.nil_append, List.length_append, List.length_cons, List.length_nil]; omega, ?_⟩
            clear hD
            generalize hX : upd _ SM _ = H9
            have ol : OdL H5 os SM ((([] ++ [([], i + 1, j + 1)]) ++ [([.change j], i + 1, j + 1)]) ++ [([.put j], i, j + 1)]) H9 := by rw [← hX]; exact om
            clear hX om ha
            obtain ⟨ts, hD, _⟩ := ol.ts
            refine ⟨_, rfl, .inl ⟨rfl, _, SqL.of hD⟩, _, rfl, by show 2 ≤ sizeLine; decide, fun T1 n1 => ⟨_, rfl, _, _, rfl, rfl, _, rfl, by show 3 ≤ sizeLine; decide, fun T3 n3 => ?_⟩⟩
            have s1 := same_new (o := .tup [.str "take", .int (j : Nat)]) n1
            have s3 := same_new (o := .tup [.ref T1, .int ((i + 1 : Nat)), .int ((j : Nat))]) n3
            obtain ⟨acc, ha, hl, om⟩ := ol.more (same_trans s1 s3) (o := ([.take j], i + 1, j)) ⟨.ref T1, upd_same, .inr ⟨T1, .take j, rfl, rfl, s3 _ _ upd_same⟩⟩
            refine ⟨SM, acc, _, rfl, rfl, ha, by rw [hl]; simp only [List.nil_append, List.length_append, List.length_cons, List.length_nil]; omega, ?_⟩
            clear hD
            generalize hX : upd _ SM _ = H9
            have ol : OdL H5 os SM (((([] ++ [([], i + 1, j + 1)]) ++ [([.change j], i + 1, j + 1)]) ++ [([.put j], i, j + 1)]) ++ [([.take j], i + 1, j)]) H9 := by rw [← hX]; exact om
            clear hX om ha
            exact rest _ _ ⟨[], rfl, by rw [ek]; exact ol⟩
          · have ek : optsK rp ro i j = [([.change j], i + 1, j + 1), ([.put j], i, j + 1), ([.take j], i + 1, j)] := by unfold optsK; rw [if_pos ⟨ci, cj⟩, if_neg he, if_pos cj, if_pos ci]; rfl
            refine ⟨_, rfl, _, rfl, pg, _, rfl, .inl (same_sqL ol.sm hP.lst), _, _, rfl, rfl, true, dT (by rw [lp]; omega), iteT ⟨_, rfl, _, rfl, og, _, rfl, .inl (same_sqL ol.sm hO.lst), _, _, rfl, rfl, true, dT (by rw [lo]; omega), iteT ?_⟩⟩
            refine ⟨_, rfl, _, rfl, pg, _, ((i : Nat) : Int), .ref qp, rfl, rfl, same_sqL ol.sm hP.lst, atI_nat hpv, _, rfl, _, rfl, og, _, ((j : Nat) : Int), .ref q, rfl, rfl, same_sqL ol.sm hO.lst, atI_nat hqv, ?_⟩
            refine ⟨_, _, .tup (same_sqT ol.sm hpr) (dp_strs _), .tup (same_sqT ol.sm hqr) (dp_strs _), shape_row (gP.rows _ hpm), shape_row (gO.rows _ hqm), ?_⟩
            rw [eqv_row]
            refine ⟨false, dF he, iteF ?_⟩
            obtain ⟨ts, hD, _⟩ := ol.ts
            refine ⟨_, rfl, .inl ⟨rfl, _, SqL.of hD⟩, _, rfl, _, rfl, _, rfl, og, _, ((j : Nat) : Int), .ref q, rfl, rfl, same_sqL ol.sm hO.lst, atI_nat hqv, by show 3 ≤ sizeLine; decide, fun T1 n1 => ⟨_, rfl, _, _, rfl, rfl, _, rfl, _, _, rfl, rfl, by show 3 ≤ sizeLine; decide, fun T3 n3 => ?_⟩⟩
            have s1 := same_new (o := .tup [.str "change", .int (j : Nat), .ref q]) n1
            have s3 := same_new (o := .tup [.ref T1, .int ((i + 1 : Nat)), .int ((j + 1 : Nat))]) n3
            obtain ⟨acc, ha, hl, om⟩ := ol.more (same_trans s1 s3) (o := ([.change j], i + 1, j + 1)) ⟨.ref T1, upd_same, .inr ⟨T1, .change j, rfl, rfl, ⟨q, hqv0, s3 _ _ upd_same⟩⟩⟩
            refine ⟨SM, acc, _, rfl, rfl, ha, by rw [hl]; simp only [List.nil_append, List.length_append, List.length_cons, List.length_nil]; omega, ?_⟩
            clear hD
            generalize hX : upd _ SM _ = H9
            have ol : OdL H5 os SM ([] ++ [([.change j], i + 1, j + 1)]) H9 := by rw [← hX]; exact om
            clear hX om ha
            refine ⟨_, rfl, _, rfl, og, _, rfl, .inl (same_sqL ol.sm hO.lst), _, _, rfl, rfl, true, dT (by rw [lo]; omega), iteT ?_⟩
            obtain ⟨ts, hD, _⟩ := ol.ts
            refine ⟨_, rfl, .inl ⟨rfl, _, SqL.of hD⟩, _, rfl, _, rfl, _, rfl, og, _, ((j : Nat) : Int), .ref q, rfl, rfl, same_sqL ol.sm hO.lst, atI_nat hqv, by show 3 ≤ sizeLine; decide, fun T1 n1 => ⟨_, rfl, _, rfl, _, _, rfl, rfl, by show 3 ≤ sizeLine; decide, fun T3 n3 => ?_⟩⟩
            have s1 := same_new (o := .tup [.str "put", .int (j : Nat), .ref q]) n1
            have s3 := same_new (o := .tup [.ref T1, .int ((i : Nat)), .int ((j + 1 : Nat))]) n3
            obtain ⟨acc, ha, hl, om⟩ := ol.more (same_trans s1 s3) (o := ([.put j], i, j + 1)) ⟨.ref T1, upd_same, .inr ⟨T1, .put j, rfl, rfl, ⟨q, hqv0, s3 _ _ upd_same⟩⟩⟩
            refine ⟨SM, acc, _, rfl, rfl, ha, by rw [hl]; simp only [List.nil_append, List.length_append, List.length_cons, List.length_nil]; omega, ?_⟩
            clear hD
            generalize hX : upd _ SM _ = H9
            have ol : OdL H5 os SM (([] ++ [([.change j], i + 1, j + 1)]) ++ [([.put j], i, j + 1)]) H9 := by rw [← hX]; exact om
            clear hX om ha
            obtain ⟨ts, hD, _⟩ := ol.ts
            refine ⟨_, rfl, .inl ⟨rfl, _, SqL.of hD⟩, _, rfl, by show 2 ≤ sizeLine; decide, fun T1 n1 => ⟨_, rfl, _, _, rfl, rfl, _, rfl, by show 3 ≤ sizeLine; decide, fun T3 n3 => ?_⟩⟩
            have s1 := same_new (o := .tup [.str "take", .int (j : Nat)]) n1
            have s3 := same_new (o := .tup [.ref T1, .int ((i + 1 : Nat)), .int ((j : Nat))]) n3
            obtain ⟨acc, ha, hl, om⟩ := ol.more (same_trans s1 s3) (o := ([.take j], i + 1, j)) ⟨.ref T1, upd_same, .inr ⟨T1, .take j, rfl, rfl, s3 _ _ upd_same⟩⟩
            refine ⟨SM, acc, _, rfl, rfl, ha, by rw [hl]; simp only [List.nil_append, List.length_append, List.length_cons, List.length_nil]; omega, ?_⟩
            clear hD
            generalize hX : upd _ SM _ = H9
            have ol : OdL H5 os SM ((([] ++ [([.change j], i + 1, j + 1)]) ++ [([.put j], i, j + 1)]) ++ [([.take j], i + 1, j)]) H9 := by rw [← hX]; exact om
            clear hX om ha
            exact rest _ _ ⟨[], rfl, by rw [ek]; exact ol⟩
        · have ek : optsK rp ro i j = [([.take j], i + 1, j)] := by unfold optsK; rw [if_neg fun z => cj z.2, if_neg cj, if_pos ci]; rfl
          refine ⟨_, rfl, _, rfl, pg, _, rfl, .inl (same_sqL ol.sm hP.lst), _, _, rfl, rfl, true, dT (by rw [lp]; omega), iteT ⟨_, rfl, _, rfl, og, _, rfl, .inl (same_sqL ol.sm hO.lst), _, _, rfl, rfl, false, dF (by rw [lo]; omega), iteF ?_⟩⟩
          refine ⟨_, rfl, _, rfl, og, _, rfl, .inl (same_sqL ol.sm hO.lst), _, _, rfl, rfl, false, dF (by rw [lo]; omega), iteF ?_⟩
          obtain ⟨ts, hD, _⟩ := ol.ts
          refine ⟨_, rfl, .inl ⟨rfl, _, SqL.of hD⟩, _, rfl, by show 2 ≤ sizeLine; decide, fun T1 n1 => ⟨_, rfl, _, _, rfl, rfl, _, rfl, by show 3 ≤ sizeLine; decide, fun T3 n3 => ?_⟩⟩
          have s1 := same_new (o := .tup [.str "take", .int (j : Nat)]) n1
          have s3 := same_new (o := .tup [.ref T1, .int ((i + 1 : Nat)), .int ((j : Nat))]) n3
          obtain ⟨acc, ha, hl, om⟩ := ol.more (same_trans s1 s3) (o := ([.take j], i + 1, j)) ⟨.ref T1, upd_same, .inr ⟨T1, .take j, rfl, rfl, s3 _ _ upd_same⟩⟩
          refine ⟨SM, acc, _, rfl, rfl, ha, by rw [hl]; simp only [List.nil_append, List.length_append, List.length_cons, List.length_nil]; omega, ?_⟩
          clear hD
          generalize hX : upd _ SM _ = H9
          have ol : OdL H5 os SM ([] ++ [([.take j], i + 1, j)]) H9 := by rw [← hX]; exact om
          clear hX om ha
          exact rest _ _ ⟨[], rfl, by rw [ek]; exact ol⟩
      · have ek0 : (if i < rp.length ∧ j < ro.length then (if rp.getD i [] = ro.getD j [] then [([], i + 1, j + 1)] else []) ++ [([Stp.change j], i + 1, j + 1)] else []) = ([] : List Opt) := if_neg fun z => ci z.1
        have cj : j < ro.length := by omega
        obtain ⟨q, hqv0, hqr⟩ : ∃ q, os[j]? = some q ∧ SqT K H5 q (sV (ro.getD j [])) := ⟨os[j]'(by have := hO.len; omega), List.getElem?_eq_getElem _, hO.row j _ _ (List.getElem?_eq_getElem _) (getD_get cj)⟩
        have hqv : (os.map V.ref)[j]? = some (.ref q) := by rw [List.getElem?_map, hqv0]; rfl
        have ek : optsK rp ro i j = [([.put j], i, j + 1)] := by unfold optsK; rw [ek0, if_pos cj, if_neg ci]; rfl
        refine ⟨_, rfl, _, rfl, pg, _, rfl, .inl (same_sqL ol.sm hP.lst), _, _, rfl, rfl, false, dF (by rw [lp]; omega), iteF ?_⟩
        refine ⟨_, rfl, _, rfl, og, _, rfl, .inl (same_sqL ol.sm hO.lst), _, _, rfl, rfl, true, dT (by rw [lo]; omega), iteT ?_⟩
        obtain ⟨ts, hD, _⟩ := ol.ts
        refine ⟨_, rfl, .inl ⟨rfl, _, SqL.of hD⟩, _, rfl, _, rfl, _, rfl, og, _, ((j : Nat) : Int), .ref q, rfl, rfl, same_sqL ol.sm hO.lst, atI_nat hqv, by show 3 ≤ sizeLine; decide, fun T1 n1 => ⟨_, rfl, _, rfl, _, _, rfl, rfl, by show 3 ≤ sizeLine; decide, fun T3 n3 => ?_⟩⟩
        have s1 := same_new (o := .tup [.str "put", .int (j : Nat), .ref q]) n1
        have s3 := same_new (o := .tup [.ref T1, .int ((i : Nat)), .int ((j + 1 : Nat))]) n3
        obtain ⟨acc, ha, hl, om⟩ := ol.more (same_trans s1 s3) (o := ([.put j], i, j + 1)) ⟨.ref T1, upd_same, .inr ⟨T1, .put j, rfl, rfl, ⟨q, hqv0, s3 _ _ upd_same⟩⟩⟩
        refine ⟨SM, acc, _, rfl, rfl, ha, by rw [hl]; simp only [List.nil_append, List.length_append, List.length_cons, List.length_nil]; omega, ?_⟩
        clear hD
        generalize hX : upd _ SM _ = H9
        have ol : OdL H5 os SM ([] ++ [([.put j], i, j + 1)]) H9 := by rw [← hX]; exact om
        clear hX om ha
        obtain ⟨ts, hD, _⟩ := ol.ts
        refine ⟨_, rfl, .inl ⟨rfl, _, SqL.of hD⟩, _, rfl, by show 2 ≤ sizeLine; decide, fun T1 n1 => ⟨_, rfl, _, _, rfl, rfl, _, rfl, by show 3 ≤ sizeLine; decide, fun T3 n3 => ?_⟩⟩
        have s1 := same_new (o := .tup [.str "take", .int (j : Nat)]) n1
        have s3 := same_new (o := .tup [.ref T1, .int ((i + 1 : Nat)), .int ((j : Nat))]) n3
        obtain ⟨acc, ha, hl, om⟩ := ol.more (same_trans s1 s3) (o := ([.take j], i + 1, j)) ⟨.ref T1, upd_same, .inr ⟨T1, .take j, rfl, rfl, s3 _ _ upd_same⟩⟩
        refine ⟨SM, acc, _, rfl, rfl, ha, by rw [hl]; simp only [List.nil_append, List.length_append, List.length_cons, List.length_nil]; omega, ?_⟩
        clear hD
        generalize hX : upd _ SM _ = H9
        have ol : OdL H5 os SM (([] ++ [([.put j], i, j + 1)]) ++ [([.take j], i + 1, j)]) H9 := by rw [← hX]; exact om
        clear hX om ha
        exact rest _ _ ⟨[([.take j], i + 1, j)], rfl, by rw [ek]; exact ol⟩
    rintro σ H7 ⟨xo, rfl, ol7⟩
    clear ol
    obtain ⟨ts, hD, hlen, hts⟩ := ol7.ts
    have hk0 := (List.getElem?_eq_some_iff.mp g1).1
    have hF := hF.same ol7.sm
    have t7 := t4.grow ol7.sm
    have s7 := same_trans s4 ol7.sm
    rw [List.length_append] at hlen
    refine ⟨_, rfl, SM, rfl, ⟨_, SqL.of hD⟩, for_list (xs := ts.map V.ref) (fun q σ H' => q ≤ k0 ∧ ∃ c8 c9 c10 : Option V, σ = [some (.ref pg), some (.ref og), some (.ref Dn), some (.ref FD), some (.int ((i : Nat) : Int)), some (.int ((j : Nat) : Int)), some (.int ((ed (rp.drop i) (ro.drop j) : Nat) : Int)), some (.ref SM), c8, c9, c10] ∧ Same H7 H')
      ⟨Nat.zero_le _, c8, c9, c10, rfl, fun _ _ h => h⟩ (fun q σ H' _ p => by
        obtain ⟨_, _, _, _, _, s8⟩ := p
        exact SqL.of (s8 _ _ hD)) ?_ ?_⟩
    rotate_left
    · rintro σ H8 ⟨hq, _⟩
      rw [List.length_map] at hq
      omega
    intro q x σ H8 hx ⟨hq, c8, c9, c10, e, s8⟩
    subst e
    obtain ⟨t, ht, rfl⟩ := get_map hx
    obtain ⟨o, ho⟩ : ∃ o, (optsK rp ro i j)[q]? = some o := ⟨_, List.getElem?_eq_getElem (by omega)⟩
    obtain ⟨v, htup, hst⟩ := (hts q t o ht (by rw [List.getElem?_append_left (by omega)]; exact ho)).same s8
    obtain ⟨m1, m2, m3, m4⟩ := opts_in (List.mem_of_getElem? ho)
    have hF := hF.same s8
    have t8 := t7.grow s8
    refine ⟨t, _, rfl, SqT.of htup, rfl, _, _, rfl, _, _, rfl, _, _, rfl, rfl, ?_⟩
    have isD : IsD H8 Dn := by
      obtain ⟨kvs, h1, _⟩ := t8.dt
      exact .inr ⟨kvs, .inl h1⟩
    refine ⟨_, rfl, Dn, rfl, isD, _, rfl, _, rfl, by show 2 ≤ sizeLine; decide, fun T1 n1 => ?_⟩
    have x1 := same_new (o := .tup [.int ((o.2.1 : Nat) : Int), .int ((o.2.2 : Nat) : Int)]) n1
    have t9 := t8.grow x1
    refine ⟨_, t9.get (a := o.2.1) (b := o.2.2) ⟨by omega, by omega⟩ upd_same, ?_⟩
    have hF := hF.same x1
    have hst := hst.same x1
    have s9 := same_trans s8 x1
    generalize upd H8 T1 (.tup [.int ((o.2.1 : Nat) : Int), .int ((o.2.2 : Nat) : Int)]) = H9 at hF hst s9 ⊢
    clear x1 n1 t8 t9 isD s8
    have hv : (if (!decide (v = V.non)) = true then (1 : Int) else 0) = ((o.1.length : Nat) : Int) := by
      rcases hst with ⟨h1, rfl⟩ | ⟨t', s, h1, rfl, _⟩
      · rw [h1]; rfl
      · rw [h1]; rfl
    refine ⟨_, rfl, rfl, .inr ⟨_, rfl, _, _, rfl, rfl, _, rfl, rfl, ?_⟩⟩
    rw [hv]
    by_cases eq : q = k0
    · subst eq
      rw [g1] at ho
      cases ho
      have hsum : ((ed (rp.drop o0.2.1) (ro.drop o0.2.2) : Nat) : Int) + ((o0.1.length : Nat) : Int) = ((ed (rp.drop i) (ro.drop j) : Nat) : Int) := by omega
      refine ⟨true, dT (congrArg V.int hsum), iteT ?_⟩
      obtain ⟨zs, hz, hzl⟩ : ∃ zs : List V, ((o0.1 = [] ∧ zs = []) ∨ ∃ t s, o0.1 = [s] ∧ zs = [.ref t] ∧ StpA H9 os t s) ∧ (zs = [] ∧ v = .non ∨ zs = [v] ∧ v ≠ .non) := by
        rcases hst with ⟨h1, rfl⟩ | ⟨t', s, h1, rfl, h3⟩
        · exact ⟨[], .inl ⟨h1, rfl⟩, .inl ⟨rfl, rfl⟩⟩
        · exact ⟨[.ref t'], .inr ⟨t', s, h1, rfl, h3⟩, .inr ⟨rfl, fun z => nomatch z⟩⟩
      have fin : ∀ (xs : List V) (H10 : Hp), StpsA H10 os FD (acc ++ o0.1) → Same H1 H10 → _ := fun xs H10 hF2 s10 => (⟨rp.length + ro.length - (o0.2.1 + o0.2.2), by omega, o0.2.1, o0.2.2, acc ++ o0.1, some (.int ((ed (rp.drop i) (ro.drop j) : Nat) : Int)), some (.ref SM), some v, some (.int ((o0.2.1 : Nat) : Int)), some (.int ((o0.2.2 : Nat) : Int)), by omega, by omega, by omega, by rw [hpl, g2, List.append_assoc], rfl, s10, hF2⟩ : ∃ m', m' < m ∧ ∃ (i' j' : Nat) (acc : List Stp) (c6 c7 c8 c9 c10 : Option V), m' + (i' + j') = rp.length + ro.length ∧ i' ≤ rp.length ∧ j' ≤ ro.length ∧ plan rp ro 0 = acc ++ plan (rp.drop i') (ro.drop j') j' ∧
        [some (V.ref pg), some (.ref og), some (.ref Dn), some (.ref FD), some (.int ((o0.2.1 : Nat) : Int)), some (.int ((o0.2.2 : Nat) : Int)), some (.int ((ed (rp.drop i) (ro.drop j) : Nat) : Int)), some (.ref SM), some v, some (.int ((o0.2.1 : Nat) : Int)), some (.int ((o0.2.2 : Nat) : Int))] = [some (.ref pg), some (.ref og), some (.ref Dn), some (.ref FD), some (.int ((i' : Nat) : Int)), some (.int ((j' : Nat) : Int)), c6, c7, c8, c9, c10] ∧ Same H1 H10 ∧ StpsA H10 os FD acc)
      obtain ⟨xs, hX, hXl⟩ := hF.raw
      have hcl : acc.length ≤ 60 := by
        have h := congrArg List.length hpl
        have h2 := plan_le rp ro 0 p30 o30
        rw [List.length_append] at h
        omega
      rcases hzl with ⟨rfl, rfl⟩ | ⟨rfl, hvn⟩
      · refine ⟨_, rfl, .inl ⟨rfl, _, SqL.of hX⟩, _, rfl, rfl, true, by rw [decide_eq_true rfl], iteT ⟨small0, fun Z nZ => ?_⟩⟩
        have xz := same_new (o := .lst []) nZ
        obtain ⟨xs', hX', hXl', hF2⟩ := (hF.same xz).ext (m := o0.1) (hz.imp id fun ⟨a, b, h, z, _⟩ => nomatch z)
        refine ⟨FD, Z, xs', [], rfl, rfl, hX', upd_same, by rw [hXl']; simp only [List.length_nil]; omega, ?_⟩
        exact ⟨_, rfl, _, rfl, _, _, rfl, fin xs' _ hF2 (same_upd (same_trans (same_trans s7 s9) xz) nF)⟩
      · refine ⟨_, rfl, .inl ⟨rfl, _, SqL.of hX⟩, _, rfl, rfl, false, by rw [decide_eq_false hvn], iteF ⟨_, rfl, by show 1 ≤ sizeLine; decide, fun Z nZ => ?_⟩⟩
        have xz := same_new (o := .lst [v]) nZ
        obtain ⟨xs', hX', hXl', hF2⟩ := (hF.same xz).ext (m := o0.1) (zs := [v]) (hz.imp (fun ⟨_, z⟩ => nomatch z) fun ⟨a, b, h, z, h3⟩ => ⟨a, b, h, z, h3.same xz⟩)
        refine ⟨FD, Z, xs', [v], rfl, rfl, hX', upd_same, by rw [hXl']; simp only [List.length_singleton]; omega, ?_⟩
        exact ⟨_, rfl, _, rfl, _, _, rfl, fin xs' _ hF2 (same_upd (same_trans (same_trans s7 s9) xz) nF)⟩
    · have hqk : q < k0 := by omega
      refine ⟨false, dF (fun z => g4 q hqk o ho ?_), iteF ⟨by omega, _, _, _, rfl, s9⟩⟩
      injection z with z
      omega
end
end TGK

namespace TGK
open TG RT
open PySem PySem.Spec PyProof.Rows L2 NdefX GenW Gx Lv
/-! ### steps as data -/
def rowDt (r : List Str) : PyData := .tuple (r.map .str)
def sD (O : List RT.Row) : Stp → PyData
  | .change n => .tuple [.str "change", .int (n : Nat), rowDt (O.getD n [])]
  | .put n => .tuple [.str "put", .int (n : Nat), rowDt (O.getD n [])]
  | .take n => .tuple [.str "take", .int (n : Nat)]
theorem dep_sD (O : List RT.Row) (s : Stp) : (sD O s).depth ≤ 2 := by
  cases s <;> simp only [sD, rowDt, PyData.depth, PyData.depthAll, depthAll_strs] <;> omega
theorem dep_sDs (O : List RT.Row) : ∀ l : List Stp, PyData.depthAll (l.map (sD O)) ≤ 2
  | [] => Nat.zero_le _
  | d :: ds => by
    rw [List.map_cons]
    have := dep_sDs O ds
    have := dep_sD O d
    simp only [PyData.depthAll]
    omega
theorem dokAll_strs : ∀ zs : List Str, dokAll (zs.map PyData.str) = true
  | [] => rfl
  | z :: zs => by
    rw [List.map_cons]
    simp only [dokAll, dok, dokAll_strs zs, Bool.and_self]
theorem dok_sD {O : List RT.Row} (gO : PgOk O) (s : Stp) : dok (sD O s) = true := by
  have hr : ∀ n, (O.getD n []).length ≤ 1000 := fun n => by
    by_cases h : n < O.length
    · have := (gO.rows _ (List.mem_of_getElem? (getD_get h))).len
      omega
    · rw [List.getD_eq_getElem?_getD, List.getElem?_eq_none (by omega)]
      exact Nat.zero_le _
  have hd : ∀ n, dok (rowDt (O.getD n [])) = true := fun n => by
    unfold rowDt
    simp only [dok, dokAll_strs, Bool.and_true, List.length_map]
    exact decide_eq_true (hr n)
  cases s <;> simp only [sD, dok, dokAll, hd, Bool.and_true] <;> rfl
theorem dok_sDs {O : List RT.Row} (gO : PgOk O) : ∀ l : List Stp, dokAll (l.map (sD O)) = true
  | [] => rfl
  | d :: ds => by
    rw [List.map_cons]
    simp only [dokAll, dok_sD gO d, dok_sDs gO ds, Bool.and_self]
theorem dpAll_get : ∀ {K : PySem.W.Frag} {H : Hp} {vs : List V} {ds : List PyData}, vs.length = ds.length → (∀ (i : Nat) (v : V) (d : PyData), vs[i]? = some v → ds[i]? = some d → Dp K H v d) → DpAll K H vs ds
  | _, _, [], [], _, _ => .nil
  | _, _, [], _ :: _, h, _ => by cases h
  | _, _, _ :: _, [], h, _ => by cases h
  | _, _, v :: vs, d :: ds, h, k => .cons (k 0 v d rfl rfl) (dpAll_get (by simp only [List.length_cons] at h; omega) fun i v' d' e1 e2 => k (i + 1) v' d' e1 e2)
theorem StpsA.dp {K : PySem.W.Frag} {H : Hp} {L : Addr} {os : List Addr} {O : List RT.Row} {l : List Stp} (h : StpsA H os L l) (ho : os.length = O.length) (hrow : ∀ (i : Nat) (q : Addr) (r : List Str), os[i]? = some q → O[i]? = some r → SqT K H q (sV r)) : Dp K H (.ref L) (.list (l.map (sD O))) := by
  obtain ⟨ts, h1, h2, h3⟩ := h
  refine .lst (SqL.of h1) (dpAll_get (by rw [List.length_map, List.length_map, h2]) fun i v d e1 e2 => ?_)
  obtain ⟨t, ht, rfl⟩ := get_map e1
  obtain ⟨s, hs, rfl⟩ : ∃ s, l[i]? = some s ∧ d = sD O s := by
    rw [List.getElem?_map] at e2
    cases q : l[i]? with
    | none => rw [q] at e2; cases e2
    | some s => rw [q] at e2; cases e2; exact ⟨s, rfl, rfl⟩
  have row : ∀ {n : Nat} {q : Addr}, os[n]? = some q → Dp K H (.ref q) (rowDt (O.getD n [])) := fun {n q} e => by
    have hn : n < O.length := by rw [← ho]; exact (List.getElem?_eq_some_iff.mp e).1
    exact .tup (hrow n q _ e (getD_get hn)) (dp_strs _)
  have hA := h3 i t s ht hs
  cases s with
  | change n =>
    obtain ⟨q, e1, e2⟩ := hA
    exact .tup (SqT.of e2) (.cons (.str _) (.cons (.int _) (.cons (row e1) .nil)))
  | put n =>
    obtain ⟨q, e1, e2⟩ := hA
    exact .tup (SqT.of e2) (.cons (.str _) (.cons (.int _) (.cons (row e1) .nil)))
  | take n => exact .tup (SqT.of hA) (.cons (.str _) (.cons (.int _) .nil))
def hkD (a b : List (List Str)) : PyData := .tuple [.list (rowsD a), .list (rowsD b)]
theorem shaped_hk {a b : List (List Str)} (ha : PgOk a) (hb : PgOk b) : SeqAt.shaped (hkD a b) = true ∧ PyData.eqv (hkD a b) (hkD a b) = true := by
  have h1 := can_rows ha
  have h2 := can_rows hb
  have hc : PyData.canLay0 (hkD a b) = true := by
    unfold hkD
    simp only [PyData.canLay0, PyData.canLayAll0, Bool.and_true, Bool.and_eq_true] at h1 h2 ⊢
    exact ⟨h1, h2⟩
  refine ⟨?_, SeqAt.eqv_refl _ hc⟩
  unfold SeqAt.shaped
  rw [hc]
  have := depthAll_rows a
  have := depthAll_rows b
  unfold hkD
  simp only [Bool.true_and, PyData.depth, PyData.depthAll]
  exact decide_eq_true (by omega)
/-- a page beside the box -/
structure PgD (b l : Addr) (H : Hp) (p : Addr) (as : List Addr) (rows : List (List Str)) : Prop where
  lst : H p = some (.lst (as.map V.ref))
  pb : p ≠ b
  pl : p ≠ l
  len : as.length = rows.length
  row : ∀ (i : Nat) (q : Addr) (r : List Str), as[i]? = some q → rows[i]? = some r → H q = some (.tup (sV r))
  ok : PgOk rows
theorem PgD.kb {b l p : Addr} {H H' : Hp} {as : List Addr} {rows : List (List Str)} (d : PgD b l H p as rows) (hB : BoxAt H b l) (x : KB b l H H') : PgD b l H' p as rows :=
  ⟨x _ _ d.lst d.pb d.pl, d.pb, d.pl, d.len, fun i q r e1 e2 => kb_tup x hB _ _ (d.row i q r e1 e2), d.ok⟩
theorem PgD.at_ {K : PySem.W.Frag} {b l p : Addr} {H : Hp} {as : List Addr} {rows : List (List Str)} (d : PgD b l H p as rows) : PageAt K H p as rows := ⟨SqL.of d.lst, d.len, fun i q r e1 e2 => SqT.of (d.row i q r e1 e2)⟩
def teM (K : PySem.W.Frag) (i : Nat) : TE := tIf (tTest (tOp (rI0 fun i j => V.bl (decide (j < i))) (tCall spTake [] E0 (tCons (tVar 1) (tCons (tC (V.int 4)) tNil))) (tC (V.int 0))))
  (tCall (spNear K) [] E0 (tCons (tVar 1) (tCons (tVar i) tNil))) (tCall spPageM [] E0 (tCons (tVar 1) (tCons (tC (V.int 12)) tNil)))
theorem teM_go {K : PySem.W.Frag} {i : Nat} {σ : L2.St} {H : Hp} {Q : VK} {b l p : Addr} {as : List Addr} {rows : List (List Str)} (h1 : σ[1]? = some (some (.ref b))) (hi : σ[i]? = some (some (.ref p))) (hB : BoxAt H b l) (d : PgD b l H p as rows)
    (k : ∀ p' as' rows' H', BoxAt H' b l → KB b l H H' → PgD b l H' p' as' rows' → Q (.ref p') H') : teM K i σ H Q := by
  unfold teM
  refine ⟨_, h1, b, l, 4, rfl, hB, by decide, by decide, fun t H1 t0 t1 hB1 x1 => ⟨t, 0, rfl, rfl, ?_⟩⟩
  by_cases ht : 0 < t
  · have d1 := d.kb hB x1
    exact ⟨true, dT ht, iteT ⟨_, h1, _, hi, b, l, p, as, rows, rfl, hB1, d1.lst, d1.pb, d1.pl, d1.len, d1.row, d1.ok, fun q as' rows' H2 hB2 x2 nq qb ql hq hql hqr hqo => k q as' rows' H2 hB2 (x1.trans x2) ⟨hq, qb, ql, hql, hqr, hqo⟩⟩⟩
  · exact ⟨false, dF ht, iteF ⟨_, h1, b, l, 12, rfl, hB1, by decide, by decide, fun q as' rows' H2 hB2 x2 nq qb ql hq hql hqr hqo h14 => k q as' rows' H2 hB2 (x1.trans x2) ⟨hq, qb, ql, hql, hqr, hqo⟩⟩⟩
section
variable {P : Program} {w : World} {K : PySem.W.Frag} {mg : Str → Option Value} {base : Heap} {cs : List (Addr × Addr)}
def spLaw (K : PySem.W.Frag) (cs : List (Addr × Addr)) : Sp := fun vs H Q _ => ∃ (a : Addr) (ns : List Int), vs = [.ref a] ∧ Tabs cs H ∧ SqL K H a (ns.map V.int) ∧ ns.length ≤ 63 ∧ ∀ H', Q (.bl true) H'
abbrev nmLaw : List Str := ["_law_script", "_law_box", "_law_turn", "_law_page_here", "_law_other", "_law_due_here", "_law_handed", "_law_again", "_law_found"]
theorem sc_law : FnScope nmLaw ["_law_script"] (defScope s_law) := ⟨rfl, rfl, rfl, by decide +kernel, rfl, by decide +kernel, by decide +kernel⟩
theorem ok_law {f g1 g2 g3 g4 g5 g6 g7 : Addr} {fd fd1 fd2 fd3 fd4 fd5 fd6 fd7 : FuncData} (T : Txt mg) (F : Fun K "law" "law" s_law f fd)
    (G1 : FnOk P w K mg base CX0 1 g1 fd1 ["_law_script"] (spBegun K)) (k1 : PySem.W.keepIn K (.ref g1) = true) (b1 : Binds K fd1 ["_law_script"] []) (m1 : mg "_law_begun" = some (.ref g1))
    (G2 : FnOk P w K mg base CX0 1 g2 fd2 ["_law_box", "_law_many"] spTake) (k2 : PySem.W.keepIn K (.ref g2) = true) (b2 : Binds K fd2 ["_law_box", "_law_many"] []) (m2 : mg "_law_take" = some (.ref g2))
    (G3 : FnOk P w K mg base CX0 5 g3 fd3 ["_law_box", "_law_most"] spPageM) (k3 : PySem.W.keepIn K (.ref g3) = true) (b3 : Binds K fd3 ["_law_box", "_law_most"] []) (m3 : mg "_law_page" = some (.ref g3))
    (G4 : FnOk P w K mg base CX0 2 g4 fd4 ["_law_page_here", "_law_other"] (spDueW K)) (k4 : PySem.W.keepIn K (.ref g4) = true) (b4 : Binds K fd4 ["_law_page_here", "_law_other"] []) (m4 : mg "_law_due" = some (.ref g4))
    (G5 : FnOk P w K mg base CX0 5 g5 fd5 ["_law_box", "_law_page_here"] (spNear K)) (k5 : PySem.W.keepIn K (.ref g5) = true) (b5 : Binds K fd5 ["_law_box", "_law_page_here"] []) (m5 : mg "_law_near" = some (.ref g5))
    (G6 : FnOk P w K mg base CX0 12 g6 fd6 ["page", "other"] (spRoute K cs)) (k6 : PySem.W.keepIn K (.ref g6) = true) (b6 : Binds K fd6 ["page", "other"] []) (m6 : mg "route" = some (.ref g6))
    (G7 : FnOk P w K mg base CX0 5 g7 fd7 ["_law_found", "_law_due_here"] (spAlike K 4)) (k7 : PySem.W.keepIn K (.ref g7) = true) (b7 : Binds K fd7 ["_law_found", "_law_due_here"] []) (m7 : mg "_law_alike" = some (.ref g7)) :
    FnOk P w K mg base CX0 13 f fd ["_law_script"] (spLaw K cs) := by
  refine F.ok sc_law (fun vs H Q E h => ?_) (fun cdv A outer s H vs Q E hr h => ?_)
  · obtain ⟨sc, ns, rfl, _⟩ := h
    rfl
  · obtain ⟨sc, ns, rfl, hT, hS, hl, kQ⟩ := h
    have nd := sc_law.nd
    have hu := hr.units
    have r1 : Room 1 _ := hr.mono (by decide)
    have r2 : Room 2 _ := hr.mono (by decide)
    have r5 : Room 5 _ := hr.mono (by decide)
    have r12 : Room 12 _ := hr.mono (by decide)
    have szl : (9000 : Nat) < sizeLine := by decide
    refine ⟨_, (pss_cons (ps_set (i := 1) nd rfl (.inl rfl) (pe_call G1 r1 (by rfl) m1 k1 b1 .nil pass0 (pa_cons (pv 0) pa_nil)))
      (pss_cons (ps_for PassesOwn.never rfl (pi_range1 (by rfl) T.range (pa_cons pe_int pa_nil)) (pg_name (i := 2) nd rfl (.inl rfl))
      (pss_cons (ps_set (i := 3) nd rfl (.inl rfl) (pe_call G3 r5 (by rfl) m3 k3 b3 .nil pass0 (pa_cons (pv 1) (pa_cons (pe_ix ix_list (pe_lst (pa_cons pe_int (pa_cons pe_int (pa_cons pe_int pa_nil)))) (pe_call G2 r1 (by rfl) m2 k2 b2 .nil pass0 (pa_cons (pv 1) (pa_cons pe_int pa_nil))) (fun _ _ => rfl)) pa_nil))))
      (pss_cons (ps_set (i := 4) nd rfl (.inl rfl) (pe_ifExp (pt_cmpR op_gt (pe_call G2 r1 (by rfl) m2 k2 b2 .nil pass0 (pa_cons (pv 1) (pa_cons pe_int pa_nil))) pe_int (nomark _)) (pe_call G5 r5 (by rfl) m5 k5 b5 .nil pass0 (pa_cons (pv 1) (pa_cons (pv 3) pa_nil))) (pe_call G3 r5 (by rfl) m3 k3 b3 .nil pass0 (pa_cons (pv 1) (pa_cons pe_int pa_nil)))))
      (pss_cons (ps_set (i := 5) nd rfl (.inl rfl) (pe_call G4 r2 (by rfl) m4 k4 b4 .nil pass0 (pa_cons (pv 3) (pa_cons (pv 4) pa_nil))))
      (pss_cons (ps_set (i := 6) nd rfl (.inl rfl) (pe_tup (pa_cons (pe_callTy call_list_of (by rfl) T.list (by decide +kernel) (pa_cons (pv 3) pa_nil)) (pa_cons (pe_callTy call_list_of (by rfl) T.list (by decide +kernel) (pa_cons (pv 4) pa_nil)) pa_nil))))
      (pss_one (ps_for PassesOwn.never rfl (pi_range1 (by rfl) T.range (pa_cons pe_int pa_nil)) (pg_name (i := 7) nd rfl (.inl rfl))
      (pss_cons (ps_set (i := 8) nd rfl (.inl rfl) (pe_call G6 r12 (by rfl) m6 k6 b6 .nil pass0 (pa_cons (pe_ix ix_tup (pv 6) pe_int (fun _ _ => rfl)) (pa_cons (pe_ix ix_tup (pv 6) pe_int (fun _ _ => rfl)) pa_nil))))
      (pss_cons (ps_if (PW.pt (pw_or (pt_not (pt_val (pe_call G7 r5 (by rfl) m7 k7 b7 .nil pass0 (pa_cons (pv 8) (pa_cons (pv 5) pa_nil))))) (pw_or1 (pt_cmpR (op_neD hu) (pv 6) (pe_tup (pa_cons (pv 3) (pa_cons (pv 4) pa_nil))) (nomark _))))) (pss_one (ps_ret pe_bl)) pss_nil)
      (pss_one (ps_expr (pe_bm PySem.F.plainAttrs_list PySem.F.slot_list_append PySem.F.type_list_append mt_append (pv 8) (pa_cons (pe_tup pa_nil) pa_nil)))))))))))))
      (pss_one (ps_ret pe_bl)))), ?_⟩
    refine ⟨_, rfl, sc, ns, rfl, hS, hl, fun b l H1 hB1 x1 nb nl => ?_⟩
    have hT1 := tabs_ext hT x1
    refine ⟨_, rfl, by decide, by decide, for_range (n := 3) (fun _ σ H' => (∃ c2 c3 c4 c5 c6 c7 c8 : Option V, σ = [some (.ref sc), some (.ref b), c2, c3, c4, c5, c6, c7, c8]) ∧ BoxAt H' b l ∧ Tabs cs H')
      ⟨⟨none, none, none, none, none, none, none, rfl⟩, hB1, hT1⟩ ?_ ?_⟩
    rotate_left
    · rintro σ H' _
      exact kQ _
    clear hT1 hB1 x1 nb nl hT hS hl
    rintro i σ H1 hi ⟨⟨c2, c3, c4, c5, c6, c7, c8, rfl⟩, hB1, hT1⟩
    -- the pages
    refine ⟨_, rfl, by show 3 ≤ sizeLine; decide, fun q0 nq0 => ⟨_, rfl, b, l, 3, rfl, box_new hB1 nq0, by decide, by decide, fun z0 H2 z00 z01 hB2 x2 => ?_⟩⟩
    obtain ⟨nb0, nl0⟩ := new_ne hB1 nq0
    have hq := x2 q0 _ upd_same nb0 nl0
    have hT2 := tabs_kb (Ex.laid (o := .lst [V.int 4, V.int 12, V.int 30]) hT1 nq0).tab (box_new hB1 nq0) x2
    obtain ⟨m, hm, em⟩ := pick (xs := [(4 : Int), 12, 30]) (i := z0) z00 z01
    have hm2 : 1 ≤ m ∧ m ≤ 30 := by
      simp only [List.mem_cons, List.not_mem_nil, or_false] at hm
      omega
    refine ⟨q0, _, _, .int m, rfl, rfl, SqL.of hq, atI_map (f := V.int) em, b, l, m, rfl, hB2, hm2.1, hm2.2, fun pg as rp H3 hB3 x3 npg pb pl hpg hal hrow gP hlm => ?_⟩
    have hT3 := tabs_kb hT2 hB2 x3
    have d1 : PgD b l H3 pg as rp := ⟨hpg, pb, pl, hal, hrow, gP⟩
    clear hq x2 hT2 hT1 hB1 nq0 nb0 nl0 hm em x3 hB2 hpg hal hrow hlm npg pb pl
    refine teM_go (K := K) (i := 3) rfl rfl hB3 d1 fun og os ro H4 hB4 x4 d2 => ?_
    have d1 := d1.kb hB3 x4
    have hT4 := tabs_kb hT3 hB3 x4
    clear x4 hB3 hT3
    have gO := d2.ok
    have hP : PageAt K H4 pg as rp := d1.at_
    have hO : PageAt K H4 og os ro := d2.at_
    clear d1 d2
    refine ⟨_, rfl, _, rfl, pg, og, as, os, rp, ro, rfl, hP, hO, gP, gO, fun DU H5 s5 nDU hDU => ?_⟩
    have x5 := ex_same hT4 s5
    have hP := hP.ex x5
    have hO := hO.ex x5
    have hB5 := box_ext hB4 x5.ext
    have hT5 := x5.tab
    clear x5 s5 nDU hT4 hB4
    refine ⟨_, rfl, pg, _, rfl, .inl hP.lst, fun q1 n1 => ?_⟩
    have x6 := Ex.laid (o := .lst (as.map V.ref)) hT5 n1
    refine ⟨_, rfl, og, _, rfl, .inl (x6.sqL hO.lst), fun q2 n2 => ?_⟩
    have x7 := Ex.laid (o := .lst (os.map V.ref)) x6.tab n2
    refine ⟨by show 2 ≤ sizeLine; decide, fun hh n3 => ?_⟩
    have x8 := Ex.laid (o := .tup [.ref q1, .ref q2]) x7.tab n3
    have hq1 := x8.lst (x7.lst (upd_same (H := H5) (a := q1) (o := .lst (as.map V.ref))))
    have hq2 := x8.lst (upd_same (H := upd H5 q1 (.lst (as.map V.ref))) (a := q2) (o := .lst (os.map V.ref)))
    have hhh : upd (upd (upd H5 q1 (.lst (as.map V.ref))) q2 (.lst (os.map V.ref))) hh (.tup [.ref q1, .ref q2]) hh = some (.tup [.ref q1, .ref q2]) := upd_same
    have x9 := (x6.trans x7).trans x8
    have hP := hP.ex x9
    have hO := hO.ex x9
    have hB6 := box_ext hB5 x9.ext
    have hT6 := x9.tab
    have hDU : StpsA (upd (upd (upd H5 q1 (.lst (as.map V.ref))) q2 (.lst (os.map V.ref))) hh (.tup [.ref q1, .ref q2])) os DU (plan rp ro 0) := hDU.same (same_trans (same_trans (same_new n1) (same_new n2)) (same_new n3))
    generalize upd (upd (upd H5 q1 (.lst (as.map V.ref))) q2 (.lst (os.map V.ref))) hh (.tup [.ref q1, .ref q2]) = H6 at hq1 hq2 hhh hP hO hB6 hT6 hDU ⊢
    clear x6 x7 x8 x9 n1 n2 n3 hT5 hB5
    obtain ⟨shp, she⟩ := shaped_hk gP gO
    refine ⟨_, rfl, by decide, by decide, for_range (n := 2) (fun _ σ H' => (∃ c7 c8 : Option V, σ = [some (.ref sc), some (.ref b), some (.int (0 + ((i : Nat) : Int))), some (.ref pg), some (.ref og), some (.ref DU), some (.ref hh), c7, c8]) ∧ Ex cs H6 H')
      ⟨⟨c7, c8, rfl⟩, Ex.refl hT6⟩ ?_ ?_⟩
    rotate_left
    · rintro σ H7 ⟨⟨c7, c8, rfl⟩, x7⟩
      exact ⟨⟨_, _, _, _, _, _, _, rfl⟩, box_ext hB6 x7.ext, x7.tab⟩
    rintro j σ H7 hj ⟨⟨c7, c8, rfl⟩, x7⟩
    have hh7 := SqT.of (K := K) (x7.tup hhh)
    have pA : PageAt K H7 q1 as rp := ⟨SqL.of (x7.lst hq1), hP.len, fun i q r e1 e2 => x7.sqT (hP.row i q r e1 e2)⟩
    have pB : PageAt K H7 q2 os ro := ⟨SqL.of (x7.lst hq2), hO.len, fun i q r e1 e2 => x7.sqT (hO.row i q r e1 e2)⟩
    refine ⟨_, rfl, hh, _, 0, .ref q1, rfl, rfl, hh7, rfl, _, rfl, hh, _, 1, .ref q2, rfl, rfl, hh7, rfl, q1, q2, as, os, rp, ro, rfl, x7.tab, pA, pB, gP, gO, fun L H8 x8 nL hL => ?_⟩
    have x68 := x7.trans x8
    have nL6 := x7.old _ nL
    have hrow8 : ∀ (i : Nat) (q : Addr) (r : List Str), os[i]? = some q → ro[i]? = some r → SqT K H8 q (sV r) := fun i q r e1 e2 => x68.sqT (hO.row i q r e1 e2)
    have hDU8 : StpsA H8 os DU (plan rp ro 0) := by
      obtain ⟨ts, a1, a2, a3⟩ := hDU
      refine ⟨ts, x68.lst a1, a2, fun k t s e1 e2 => ?_⟩
      have h := a3 k t s e1 e2
      cases s with
      | change n =>
        obtain ⟨q, h1, h2⟩ := h
        exact ⟨q, h1, x68.tup h2⟩
      | put n =>
        obtain ⟨q, h1, h2⟩ := h
        exact ⟨q, h1, x68.tup h2⟩
      | take n => exact x68.tup h
    have pl := plan_le rp ro 0 gP.len gO.len
    refine ⟨_, rfl, _, rfl, .ref L, .ref DU, .list ((plan rp ro 0).map (sD ro)), rfl, hL.dp hO.len hrow8, hDU8.dp hO.len hrow8, ?_, ?_, true, rfl, iteF ?_⟩
    · have := dep_sDs ro (plan rp ro 0)
      simp only [PyData.depth]
      omega
    · simp only [dok, dok_sDs gO, Bool.and_true, List.length_map]
      exact decide_eq_true (by omega)
    refine ⟨_, rfl, _, rfl, _, rfl, by show 2 ≤ sizeLine; decide, fun td ntd => ?_⟩
    have xt := Ex.laid (o := .tup [.ref pg, .ref og]) x68.tab ntd
    have x69 := x68.trans xt
    have dP : Dp K (upd H8 td (.tup [.ref pg, .ref og])) (.ref pg) (.list (rowsD rp)) := .lst (x69.sqL hP.lst) (dp_rows hP.len fun i q t e1 e2 => x69.sqT (hP.row i q t e1 e2))
    have dO : Dp K (upd H8 td (.tup [.ref pg, .ref og])) (.ref og) (.list (rowsD ro)) := .lst (x69.sqL hO.lst) (dp_rows hO.len fun i q t e1 e2 => x69.sqT (hO.row i q t e1 e2))
    have dP2 : Dp K (upd H8 td (.tup [.ref pg, .ref og])) (.ref q1) (.list (rowsD rp)) := .lst (SqL.of (x69.lst hq1)) (dp_rows hP.len fun i q t e1 e2 => x69.sqT (hP.row i q t e1 e2))
    have dO2 : Dp K (upd H8 td (.tup [.ref pg, .ref og])) (.ref q2) (.list (rowsD ro)) := .lst (SqL.of (x69.lst hq2)) (dp_rows hO.len fun i q t e1 e2 => x69.sqT (hO.row i q t e1 e2))
    refine ⟨hkD rp ro, hkD rp ro, .tup (SqT.of (x69.tup hhh)) (.cons dP2 (.cons dO2 .nil)), .tup (SqT.of upd_same) (.cons dP (.cons dO .nil)), shp, shp, ?_⟩
    rw [she]
    refine ⟨false, rfl, iteF ?_⟩
    obtain ⟨ls, hLs, hLl⟩ := (hL.same (same_new (o := .tup [.ref pg, .ref og]) ntd)).raw
    generalize upd H8 td (.tup [.ref pg, .ref og]) = H9 at x69 hLs ⊢
    clear dP dO dP2 dO2 xt
    refine ⟨_, rfl, .inl ⟨rfl, _, SqL.of hLs⟩, by show 0 ≤ sizeLine; decide, fun te nte => ?_⟩
    have xe := Ex.laid (o := .tup []) x69.tab nte
    refine ⟨L, ls, _, rfl, rfl, xe.lst hLs, by omega, ?_⟩
    exact ⟨⟨_, _, rfl⟩, ex_new hT6 (x69.trans xe) nL6⟩
end
end TGK


namespace TG
open PySem PySem.Spec PyProof.Rows L2 TGK
/-! ### the head -/
theorem subL {K : PySem.W.Frag} {q : Addr × Addr} (h : q ∈ tfB.map (He.cT K)) : q ∈ tfL.map (He.cT K) := by
  unfold tfL
  rw [List.map_append]
  exact List.mem_append_left _ h
theorem memL {K : PySem.W.Frag} {r : He.Defn} (h : r ∈ lmL) : He.cT K r ∈ tfL.map (He.cT K) := by
  unfold tfL
  rw [List.map_append]
  exact List.mem_append_right _ (List.mem_map_of_mem h)
theorem fun_of {K : PySem.W.Frag} {x : Str} {st : Stmt} {f : Addr} {fd : FuncData} (F : FunD K x x (defArgs st) (defBody st) (defScope st) [] [] f fd) : Fun K x x st f fd := by
  obtain ⟨⟨oc, od, dV, kV, doc, pm, an, cdv, ct, osl, e, lk, hcd, hd, _⟩, kp⟩ := F
  rcases hd with ⟨_, hd⟩ | ⟨hd, _⟩
  · subst hd
    exact ⟨⟨oc, od, kV, doc, pm, an, cdv, ct, osl, e, lk, hcd⟩, kp⟩
  · exact absurd rfl hd
/-- a def of the top, by its name -/
structure At (K : PySem.W.Frag) (mg : Str → Option Value) (x : Str) (st : Stmt) (fd : FuncData) : Prop where
  mg_ : mg x = some (.ref (He.ga K x))
  fn : Fun K x x st (He.ga K x) fd
theorem At.kp {K : PySem.W.Frag} {mg : Str → Option Value} {x : Str} {st : Stmt} {fd : FuncData} (a : At K mg x st fd) : PySem.W.keepIn K (.ref (He.ga K x)) = true := a.fn.kp
theorem at_of {fa : List He.Fa} {fn : List He.DefD} {K : PySem.W.Frag} {h : Heap} {mg : Str → Option Value} (X : K.In h) (G : h.Ns mainGlobals mg) (c : He.SaysD fa fn K) {i : Nat} {x : Str} (hd : dd i x ∈ fn) (hf : He.Fa.glo x ∈ fa) : ∃ fd, At K mg x (top i) fd := by
  obtain ⟨fd, F⟩ := c.defs hd
  exact ⟨fd, He.glo_ok X G (c.facts hf), fun_of F⟩
theorem code_of {K : PySem.W.Frag} {mg : Str → Option Value} {x : Str} {st : Stmt} {fd : FuncData} (a : At K mg x st fd) : fd.code = .ref (He.cT K (x, none)).1 := by
  obtain ⟨oc, od, kV, doc, pm, an, cdv, ct, osl, e, lk, hcd⟩ := a.fn.ex
  obtain ⟨c, hc⟩ := He.codeIn_ref hcd
  have e2 : fd.code = .ref c := by rw [e, ← hc]
  have e3 : He.codeOf K (x, none) = c := He.codeOf_eq (p := (x, none)) lk e2
  show fd.code = .ref (He.codeOf K (x, none))
  rw [e3, e2]
theorem tab_conv {base : Heap} {mg : Str → Option Value} {c P : Addr} (t : LamX.TabB base mg c P) : GxR.TabB base mg c P := ⟨t.code, t.bm, t.gP⟩

theorem txt_of {K : PySem.W.Frag} {h : Heap} {mg : Str → Option Value} (X : K.In h) (G : h.Ns mainGlobals mg) (c : He.SaysD faL fnL K) : Txt mg := by
  constructor
  all_goals exact He.free_ok X G (c.facts (by simp [faL]))
theorem consts_of {K : PySem.W.Frag} {h : Heap} {mg : Str → Option Value} (X : K.In h) (G : h.Ns mainGlobals mg) (c : He.SaysD faL fnL K) : Consts mg := by
  constructor
  all_goals exact He.int_ok X G (c.facts (by simp [faL]))
theorem triples_nil : TriplesOk (#[] : Array Value).toList := trivial
theorem facts {w : World} {K : PySem.W.Frag} {h : Heap} {mg : Str → Option Value} {f : Addr} (X : K.In h) (G : h.Ns mainGlobals mg) (hfa : mg ("law" : Str) = some (.ref f)) (c : He.SaysX faL fnL [] tfL exL w h K) :
    LamX.LawAtS PySem.Challenge.rw_tabgrow_k17_routes w K CX0 13 63 "_law_script" mg f h := by
  have cd := c.t.d
  have T := txt_of X G cd
  have N := consts_of X G cd
  have me := c.more
  obtain ⟨d10, a10⟩ := at_of X G cd (i := 10) (x := "is_sign") (by simp [fnL]) (by simp [faL])
  have b10 := a10.fn.binds (ps := ["sign"]) fun _ _ _ _ _ _ us hl => match us, hl with | [_], _ => rfl
  obtain ⟨d11, a11⟩ := at_of X G cd (i := 11) (x := "is_text_of_signs") (by simp [fnL]) (by simp [faL])
  have b11 := a11.fn.binds (ps := ["value", "most"]) fun _ _ _ _ _ _ us hl => match us, hl with | [_, _], _ => rfl
  obtain ⟨d12, a12⟩ := at_of X G cd (i := 12) (x := "is_row") (by simp [fnL]) (by simp [faL])
  have b12 := a12.fn.binds (ps := ["value"]) fun _ _ _ _ _ _ us hl => match us, hl with | [_], _ => rfl
  obtain ⟨d13, a13⟩ := at_of X G cd (i := 13) (x := "first_misfit") (by simp [fnL]) (by simp [faL])
  have b13 := a13.fn.binds (ps := ["rows"]) fun _ _ _ _ _ _ us hl => match us, hl with | [_], _ => rfl
  obtain ⟨d14, a14⟩ := at_of X G cd (i := 14) (x := "check_page") (by simp [fnL]) (by simp [faL])
  have b14 := a14.fn.binds (ps := ["page"]) fun _ _ _ _ _ _ us hl => match us, hl with | [_], _ => rfl
  obtain ⟨d16, a16⟩ := at_of X G cd (i := 16) (x := "route") (by simp [fnL]) (by simp [faL])
  have b16 := a16.fn.binds (ps := ["page", "other"]) fun _ _ _ _ _ _ us hl => match us, hl with | [_, _], _ => rfl
  obtain ⟨d17, a17⟩ := at_of X G cd (i := 17) (x := "ways") (by simp [fnL]) (by simp [faL])
  have b17 := a17.fn.binds (ps := ["page", "other", "here", "there"]) fun _ _ _ _ _ _ us hl => match us, hl with | [_, _, _, _], _ => rfl
  obtain ⟨d19, a19⟩ := at_of X G cd (i := 19) (x := "_law_begun") (by simp [fnL]) (by simp [faL])
  have b19 := a19.fn.binds (ps := ["_law_script"]) fun _ _ _ _ _ _ us hl => match us, hl with | [_], _ => rfl
  obtain ⟨d20, a20⟩ := at_of X G cd (i := 20) (x := "_law_take") (by simp [fnL]) (by simp [faL])
  have b20 := a20.fn.binds (ps := ["_law_box", "_law_many"]) fun _ _ _ _ _ _ us hl => match us, hl with | [_, _], _ => rfl
  obtain ⟨d21, a21⟩ := at_of X G cd (i := 21) (x := "_law_alike") (by simp [fnL]) (by simp [faL])
  have b21 := a21.fn.binds (ps := ["_law_found", "_law_due_here"]) fun _ _ _ _ _ _ us hl => match us, hl with | [_, _], _ => rfl
  obtain ⟨d22, a22⟩ := at_of X G cd (i := 22) (x := "_law_sign") (by simp [fnL]) (by simp [faL])
  have b22 := a22.fn.binds (ps := ["_law_box"]) fun _ _ _ _ _ _ us hl => match us, hl with | [_], _ => rfl
  obtain ⟨d23, a23⟩ := at_of X G cd (i := 23) (x := "_law_cell") (by simp [fnL]) (by simp [faL])
  have b23 := a23.fn.binds (ps := ["_law_box", "_law_sort"]) fun _ _ _ _ _ _ us hl => match us, hl with | [_, _], _ => rfl
  obtain ⟨d24, a24⟩ := at_of X G cd (i := 24) (x := "_law_row") (by simp [fnL]) (by simp [faL])
  have b24 := a24.fn.binds (ps := ["_law_box", "_law_sorts", "_law_many"]) fun _ _ _ _ _ _ us hl => match us, hl with | [_, _, _], _ => rfl
  obtain ⟨d25, a25⟩ := at_of X G cd (i := 25) (x := "_law_page") (by simp [fnL]) (by simp [faL])
  have b25 := a25.fn.binds (ps := ["_law_box", "_law_most"]) fun _ _ _ _ _ _ us hl => match us, hl with | [_, _], _ => rfl
  obtain ⟨d26, a26⟩ := at_of X G cd (i := 26) (x := "_law_style") (by simp [fnL]) (by simp [faL])
  have b26 := a26.fn.binds (ps := ["_law_box"]) fun _ _ _ _ _ _ us hl => match us, hl with | [_], _ => rfl
  obtain ⟨d27, a27⟩ := at_of X G cd (i := 27) (x := "_law_near") (by simp [fnL]) (by simp [faL])
  have b27 := a27.fn.binds (ps := ["_law_box", "_law_page_here"]) fun _ _ _ _ _ _ us hl => match us, hl with | [_, _], _ => rfl
  obtain ⟨d28, a28⟩ := at_of X G cd (i := 28) (x := "_law_needs") (by simp [fnL]) (by simp [faL])
  have b28 := a28.fn.binds (ps := ["_law_page_here", "_law_other"]) fun _ _ _ _ _ _ us hl => match us, hl with | [_, _], _ => rfl
  obtain ⟨d29, a29⟩ := at_of X G cd (i := 29) (x := "_law_due") (by simp [fnL]) (by simp [faL])
  have b29 := a29.fn.binds (ps := ["_law_page_here", "_law_other"]) fun _ _ _ _ _ _ us hl => match us, hl with | [_, _], _ => rfl
  obtain ⟨d30, a30⟩ := at_of X G cd (i := 30) (x := "law") (by simp [fnL]) (by simp [faL])
  have b30 := a30.fn.binds (ps := ["_law_script"]) fun _ _ _ _ _ _ us hl => match us, hl with | [_], _ => rfl
  have e := hfa.symm.trans a30.mg_
  cases e
  refine ⟨d30, tfL.map (He.cT K), spLaw K (tfB.map (He.cT K)) , fun p hp => ?_, fun p hp => ?_, fun p hp => ?_, fun s u => ?_, fun H a ns hl _ hT hS => ⟨a, ns, rfl, fun p hp => ⟨_, hT p (subL hp), triples_nil⟩, hS, hl, fun _ => rfl⟩, fun base KB _ TB => ?_⟩
  · obtain ⟨p', hp', rfl⟩ := List.mem_map.mp hp
    exact c.empty p' hp'
  · obtain ⟨p', hp', rfl⟩ := List.mem_map.mp hp
    exact c.out p' hp'
  · obtain ⟨p', hp', rfl⟩ := List.mem_map.mp hp
    exact PySem.W.codeHd_of_K X (c.hd p' hp')
  · obtain ⟨oc, od, kV, doc, pm, an, cdv, ct, osl, e, _, _⟩ := a30.fn.ex
    rw [e]
    exact .of_eq rfl
  have m11 : He.cT K ("is_text_of_signs", none) ∈ tfB.map (He.cT K) := List.mem_map.mpr ⟨_, by simp [tfB], rfl⟩
  have t11 := tab_conv (TB _ (subL m11))
  have m12 : He.cT K ("is_row", none) ∈ tfB.map (He.cT K) := List.mem_map.mpr ⟨_, by simp [tfB], rfl⟩
  have t12 := tab_conv (TB _ (subL m12))
  have g19 := ok_begun (P := PySem.Challenge.rw_tabgrow_k17_routes.prog) (w := w) (base := base) (mg := mg) T a19.fn 
  have g20 := ok_take (P := PySem.Challenge.rw_tabgrow_k17_routes.prog) (w := w) (base := base) (mg := mg)  a20.fn 
  have g22 := ok_sign (P := PySem.Challenge.rw_tabgrow_k17_routes.prog) (w := w) (base := base) (mg := mg)  a22.fn g20 a20.kp b20 a20.mg_
  have g23 := ok_cell (P := PySem.Challenge.rw_tabgrow_k17_routes.prog) (w := w) (base := base) (mg := mg) T a23.fn g20 a20.kp b20 a20.mg_ g22 a22.kp b22 a22.mg_
  have g24 := ok_lrow (P := PySem.Challenge.rw_tabgrow_k17_routes.prog) (w := w) (base := base) (mg := mg) T a24.fn g23 a23.kp b23 a23.mg_
  have g25 := ok_lpageM (P := PySem.Challenge.rw_tabgrow_k17_routes.prog) (w := w) (base := base) (mg := mg) T a25.fn g20 a20.kp b20 a20.mg_ g24 a24.kp b24 a24.mg_
  have g28 := ok_needs (P := PySem.Challenge.rw_tabgrow_k17_routes.prog) (w := w) (base := base) (mg := mg) T a28.fn 
  have g29 := ok_duew (P := PySem.Challenge.rw_tabgrow_k17_routes.prog) (w := w) (base := base) (mg := mg) T a29.fn g28 a28.kp b28 a28.mg_
  have g27 := ok_near (P := PySem.Challenge.rw_tabgrow_k17_routes.prog) (w := w) (base := base) (mg := mg) T a27.fn g20 a20.kp b20 a20.mg_ g24 a24.kp b24 a24.mg_
  have g10 := ok_sg (P := PySem.Challenge.rw_tabgrow_k17_routes.prog) (w := w) (base := base) (mg := mg) T N a10.fn 
  have g11 := ok_text (P := PySem.Challenge.rw_tabgrow_k17_routes.prog) (w := w) (base := base) (mg := mg) T a11.fn (code_of a11) t11 m11 g10 a10.kp b10 a10.mg_
  have g12 := ok_isrow (P := PySem.Challenge.rw_tabgrow_k17_routes.prog) (w := w) (base := base) (mg := mg) T N a12.fn (code_of a12) t12 m12 g11 a11.kp b11 a11.mg_
  have g13 := ok_misfit (P := PySem.Challenge.rw_tabgrow_k17_routes.prog) (w := w) (base := base) (mg := mg) T N a13.fn g12 a12.kp b12 a12.mg_
  have g14 := ok_check (P := PySem.Challenge.rw_tabgrow_k17_routes.prog) (w := w) (base := base) (mg := mg) T a14.fn g13 a13.kp b13 a13.mg_
  have g17 := ok_ways (P := PySem.Challenge.rw_tabgrow_k17_routes.prog) (w := w) (base := base) (mg := mg) T a17.fn 
  have g16 := ok_route (P := PySem.Challenge.rw_tabgrow_k17_routes.prog) (w := w) (base := base) (mg := mg) (cs := tfB.map (He.cT K)) T T.min a16.fn g14 a14.kp b14 a14.mg_ g17 a17.kp b17 a17.mg_
  have g21 := ok_alike (P := PySem.Challenge.rw_tabgrow_k17_routes.prog) (w := w) (base := base) (mg := mg) T a21.fn b21 a21.mg_ 4
  exact ok_law T a30.fn g19 a19.kp b19 a19.mg_ g20 a20.kp b20 a20.mg_ g25 a25.kp b25 a25.mg_ g29 a29.kp b29 a29.mg_ g27 a27.kp b27 a27.mg_ g16 a16.kp b16 a16.mg_ g21 a21.kp b21 a21.mg_
end TG


open PySem PySem.W PySem.Calls PyProof.Rows
theorem PySem.Challenge.cw_tabgrow_k17_routes_holds : PySem.Challenge.rw_tabgrow_k17_routes.Holds := by
  w_on; o_law
  refine HandSHeadRun.head_any (r := OpenLaw.row PySem.Challenge.rw_tabgrow_k17_routes) (q := view (OpenLaw.row PySem.Challenge.rw_tabgrow_k17_routes).prog [30]) (H := TG.hdHk) (ob := TG.hdOb) (M := 4000) (loose := TG.looseL) (d := HandSHeadRun.topDef (OpenLaw.row PySem.Challenge.rw_tabgrow_k17_routes).prog 30) (kwd := []) TG.hdOb_eq
    (by kernel_rfl) (fun s => by kernel_rfl) TG.hdRun (by kernel_rfl) (by kernel_rfl) (by kernel_rfl) (by rfl) (by first | assumption | decide +kernel) (by decide +kernel) ⟨rfl, rfl, rfl, rfl, rfl, by decide +kernel⟩ ?hw ?hc
  case hw => w_witness2
  case hc =>
    refine LamX.walk_ofTsE (l := PySem.Challenge.rw_tabgrow_k17_routes) (n := 63) (k := 13) (x := "_law_script") (CX := fun _ => L2.CX0) rfl (by decide) (by kernel_rfl) ⟨rfl, by decide, by decide⟩ ?F (fun _ _ _ _ _ z => z)
    intro w mg fa h Y G hmg0
    obtain ⟨K, KX, c⟩ := Y
    have hmg : mg ("law" : PySem.Str) = some (.ref fa) := by
      have e : (HandSHeadRun.topDef (OpenLaw.row PySem.Challenge.rw_tabgrow_k17_routes).prog 30).name = ("law" : PySem.Str) := by kernel_rfl
      rw [← e]
      exact hmg0
    exact ⟨K, KX, TG.facts KX G hmg c⟩

