import PyProof.Rows.All
import Wide.All
import OpenK.AllK
import Wide.FinOn
import HandS.ForMost
import HandS.Exc
import HandS.GenList
import HandS.AnyAll
import HandS.IsInst
import HandS.StrMore
import HandS.Flow
import HandS.TupAny
import HandS.EndTab
import HandS.Walk
import HandS.Lambda
import HandS.Codes
import KE.KIntText
import KE.KxText
import KE.KStateDown
import HandS.Head0
import HandS.Head1
import HandS.Head2
import HandS.HeadEnd
import HandS.HeadHook1
import HandS.HeadHook2
import HandS.HeadHook3
import HandS.HeadHook4
import HandS.HeadWalk
import PyProof.WalkInts
import PyProof.ZipIter
import HandS.Zip
import HandS.Nested
import HandS.GenOver
import KE.KLam
import PySem.Challenge.RW_tabgrow_k18_whole_no_shorter_route
import KE.GoesEnum
import HandS.Iter
import HandS.Wide
import HandS.TupMul
import KE.DataMinKey
import HandS.SortKw
import PyProof.Methods
import HandS.TryMany
import HandS.Dict
import HandS.Small
import HandS.Conv
import HandS.More
import HandS.Deep
import HandS.Style
import HandS.WordsExc
import HandS.ExcInit
import HandS.ExcOwn
import HandS.FStr
import HandS.ExcIs
import HandS.ExcField
import KE.KExcIs
import KE.KExcSuper
import KE.KSuper
import KE.KSuperObj
import KE.GoesComp
import HandS.TryOnly
import KE.KDictZip
import KE.KTurns
set_option Elab.async false
set_option linter.all false
set_option maxRecDepth 1000000
set_option maxHeartbeats 20000000
namespace Gx
open PySem PySem.Spec PyProof.Rows L2 GenW
section
variable {X : Cx} {pins : List (Addr × Obj)} {σ : L2.St} {H : Hp} {s : Shared} {A : Around} {sc : Scope} {x : Str} {code : Value} {fp : List Addr}
end
end Gx
namespace Gx
open PySem PySem.Spec PyProof.Rows L2 GenW
section
variable {X : Cx} {pins : List (Addr × Obj)} {σ : L2.St} {H : Hp} {s : Shared} {sc : Scope} {x : Str}
end
end Gx
namespace Gx
open PySem PySem.Spec PyProof.Rows L2 GenW
section
variable {X : Cx} {pins : List (Addr × Obj)} {σ : L2.St} {H : Hp} {s : Shared} {sc : Scope} {x : Str}
end
end Gx
namespace Gx
open PySem PySem.Spec PyProof.Rows L2 GenW
section
variable {X : Cx} {pins : List (Addr × Obj)} {σ : L2.St} {H : Hp} {s : Shared} {sc : Scope} {x : Str}
end
end Gx
namespace Gx
open PySem PySem.Spec PyProof.Rows L2 GenW
section
variable {X : Cx} {pins : List (Addr × Obj)} {σ : L2.St} {H : Hp} {s : Shared} {sc : Scope} {x : Str}
def MaxRel (ys : List V) (acc : Array Value) : Prop :=
  ∃ ns : List Int, ys = ns.map V.int ∧ ((ns = [] ∧ acc = #[]) ∨ ∃ b t, acc = #[.int b t, .int b t] ∧ b ∈ ns ∧ ∀ z ∈ ns, z ≤ b)
def NsMax (Qm : Int → Hp → Prop) : List V → Hp → Prop := fun ys H => ∃ ns : List Int, ys = ns.map V.int ∧ ns ≠ [] ∧ ∀ b, b ∈ ns → (∀ z ∈ ns, z ≤ b) → Qm b H
theorem map_int_inj {a b : List Int} (h : a.map V.int = b.map V.int) : a = b := by
  induction a generalizing b with
  | nil => cases b with
    | nil => rfl
    | cons _ _ => cases h
  | cons x a ih => cases b with
    | nil => cases h
    | cons y b =>
      rw [List.map_cons, List.map_cons] at h
      injection h with h1 h2
      injection h1 with h1
      rw [h1, ih h2]
theorem MaxRel.none {ys : List V} {Qm : Int → Hp → Prop} (h : MaxRel ys #[]) (q : NsMax Qm ys H) : False := by
  obtain ⟨ns, rfl, h | ⟨b', u', e, hb, hm⟩⟩ := h
  · obtain ⟨ms, e1, h2, _⟩ := q
    rw [h.1] at e1
    exact h2 (map_int_inj e1).symm
  · have := congrArg Array.size e
    simp at this
end
end Gx
namespace TG
open PySem L2
def top (i : Nat) : Stmt := PySem.Challenge.pw_tabgrow_k18_whole_no_shorter_route.main.body.getD i (.Pass ⟨0, 0, 0, 0⟩)
abbrev s_is_whole : Stmt := top 17
abbrev s_is_sign : Stmt := top 18
abbrev s_is_text : Stmt := top 19
abbrev s_is_row : Stmt := top 20
abbrev s_misfit : Stmt := top 21
abbrev s_check_page : Stmt := top 22
abbrev s_check_style : Stmt := top 24
abbrev s_stretches : Stmt := top 26
abbrev s_closed_runs : Stmt := top 27
abbrev s_is_closed : Stmt := top 28
abbrev s_described : Stmt := top 29
abbrev s_stands_right : Stmt := top 30
abbrev s_is_figures : Stmt := top 31
abbrev s_laid : Stmt := top 33
abbrev s_closed_cells : Stmt := top 34
abbrev s_left_ends : Stmt := top 35
abbrev s_begins_of : Stmt := top 36
abbrev s_route : Stmt := top 43
abbrev s_stepped : Stmt := top 45
abbrev s_begun : Stmt := top 50
abbrev s_take : Stmt := top 51
abbrev s_alike : Stmt := top 52
abbrev s_sign : Stmt := top 53
abbrev s_cell : Stmt := top 54
abbrev s_row : Stmt := top 55
abbrev s_page : Stmt := top 56
abbrev s_style : Stmt := top 57
abbrev s_near : Stmt := top 58
abbrev s_law : Stmt := top 59
section
variable {P : Program} {w : World} {K : PySem.W.Frag} {mg : Str → Option Value} {base : Heap}
end
end TG
namespace TG
open PySem L2
section
variable {P : Program} {w : World} {K : PySem.W.Frag} {mg : Str → Option Value} {base : Heap}
end
end TG
namespace Gx
open PySem PySem.Spec PyProof.Rows L2 GenW
section
variable {J : It} {n : Nat} {G : Hp → Prop} {Y : Nat → Hp → V → Hp → Prop}
end
end Gx
namespace TG
open PySem L2 Gx
def SgOk (c : Nat) : Prop := 32 ≤ c ∧ c ≤ 126 ∧ c ≠ 37
section
variable {P : Program} {w : World} {K : PySem.W.Frag} {mg : Str → Option Value} {base : Heap}
end
end TG
namespace TG
open PySem L2 Gx
section
variable {P : Program} {w : World} {K : PySem.W.Frag} {mg : Str → Option Value} {base : Heap} {cs : List (Addr × Addr)}
end
end TG
namespace TG
open PySem L2 Gx
section
variable {P : Program} {w : World} {K : PySem.W.Frag} {mg : Str → Option Value} {base : Heap} {cs : List (Addr × Addr)}
end
end TG
namespace TG
open PySem L2 Gx
section
variable {P : Program} {w : World} {K : PySem.W.Frag} {mg : Str → Option Value} {base : Heap} {cs : List (Addr × Addr)}
end
end TG
namespace TG
open PySem L2 Gx
section
variable {P : Program} {w : World} {K : PySem.W.Frag} {mg : Str → Option Value} {base : Heap} {cs : List (Addr × Addr)}
end
end TG
namespace TG
open PySem L2 Gx
section
variable {P : Program} {w : World} {K : PySem.W.Frag} {mg : Str → Option Value} {base : Heap} {cs : List (Addr × Addr)}
end
end TG
namespace TG
open PySem L2 Gx
section
variable {P : Program} {w : World} {K : PySem.W.Frag} {mg : Str → Option Value} {base : Heap} {cs : List (Addr × Addr)}
end
end TG
namespace TG
open PySem L2 Gx
instance (c : Nat) : Decidable (SgOk c) := inferInstanceAs (Decidable (32 ≤ c ∧ c ≤ 126 ∧ c ≠ 37))
end TG
namespace TG
open PySem L2 Gx
section
variable {P : Program} {w : World} {K : PySem.W.Frag} {mg : Str → Option Value} {base : Heap} {cs : List (Addr × Addr)}
end
end TG
namespace TG
open PySem L2 Gx
section
variable {P : Program} {w : World} {K : PySem.W.Frag} {mg : Str → Option Value} {base : Heap} {cs : List (Addr × Addr)}
end
end TG
namespace TG
open PySem L2 Gx
section
variable {P : Program} {w : World} {K : PySem.W.Frag} {mg : Str → Option Value} {base : Heap} {cs : List (Addr × Addr)}
end
end TG
namespace TG
open PySem L2 Gx
section
variable {P : Program} {w : World} {K : PySem.W.Frag} {mg : Str → Option Value} {base : Heap} {cs : List (Addr × Addr)}
end
end TG
namespace TG
open PySem L2 Gx
end TG
namespace TG
open PySem L2 Gx
end TG
namespace TG
open PySem L2 Gx
section
variable {P : Program} {w : World} {K : PySem.W.Frag} {mg : Str → Option Value} {base : Heap} {cs : List (Addr × Addr)}
end
end TG
namespace TG
open PySem L2 Gx
section
variable {P : Program} {w : World} {K : PySem.W.Frag} {mg : Str → Option Value} {base : Heap} {cs : List (Addr × Addr)}
end
end TG
namespace TG
open PySem L2 Gx
section
variable {P : Program} {w : World} {K : PySem.W.Frag} {mg : Str → Option Value} {base : Heap} {cs : List (Addr × Addr)}
end
end TG
namespace TG
open PySem L2 Gx
section
variable {P : Program} {w : World} {K : PySem.W.Frag} {mg : Str → Option Value} {base : Heap} {cs : List (Addr × Addr)}
end
end TG
namespace TG
open PySem L2 Gx
section
variable {P : Program} {w : World} {K : PySem.W.Frag} {mg : Str → Option Value} {base : Heap} {cs : List (Addr × Addr)}
end
end TG
namespace TG
open PySem L2 Gx
section
variable {P : Program} {w : World} {K : PySem.W.Frag} {mg : Str → Option Value} {base : Heap} {cs : List (Addr × Addr)}
end
end TG
namespace TG
open PySem L2 Gx
section
variable {P : Program} {w : World} {K : PySem.W.Frag} {mg : Str → Option Value} {base : Heap} {cs : List (Addr × Addr)}
end
end TG
namespace TG
open PySem L2 Gx
end TG
namespace Zm
open PySem PySem.Spec PyProof.Rows L2
section
variable {P : Program} {w : World} {A : Around} {E : Value → Shared → Prop} {s : Shared} {z TI TO i1 i2 l1 l2 : Addr}
end
end Zm
namespace Zm
open PySem PySem.Spec PyProof.Rows L2
section
variable {P : Program} {w : World} {A : Around} {E : Value → Shared → Prop} {s : Shared}
end
end Zm
namespace TG
open PySem L2 Gx
section
variable {P : Program} {w : World} {K : PySem.W.Frag} {mg : Str → Option Value} {base : Heap} {cs : List (Addr × Addr)}
end
end TG
namespace TG
open PySem L2 Gx
section
variable {P : Program} {w : World} {K : PySem.W.Frag} {mg : Str → Option Value} {base : Heap} {cs : List (Addr × Addr)}
end
end TG
namespace Lv
open PySem PySem.Spec PyProof.Rows L2 NdefX GenW
section
variable {X : Cx} {pins : List (Addr × Obj)} {σ : L2.St} {H : Hp} {s : Shared}
end
section
variable {P : Program} {w : World} {K : PySem.W.Frag} {mg : Str → Option Value} {base : Heap}
end
end Lv
namespace TG
open PySem PySem.Spec PyProof.Rows L2
section
variable {P : Program} {w : World}
variable {K : PySem.W.Frag} {mg : Str → Option Value} {base : Heap} {A : Around} {outer : List Env} {s s' : Shared}
end
end TG
namespace TG
open PySem PySem.Spec PyProof.Rows L2 NdefX GenW Gx Lv
section
variable {P : Program} {w : World} {K : PySem.W.Frag} {mg : Str → Option Value} {base : Heap}
end
end TG
namespace TG
open PySem PySem.Spec PyProof.Rows L2 NdefX GenW Gx Lv
end TG
namespace TG
open PySem PySem.Spec PyProof.Rows L2 NdefX GenW Gx Lv
end TG
namespace TG
open PySem PySem.Spec PyProof.Rows L2
def clsBd : Stmt → List Stmt
  | .ClassDef _ _ _ b _ _ _ _ _ _ _ => b
  | _ => []
def mth (c i : Nat) : Stmt := (clsBd (top c)).getD i (.Pass ⟨0, 0, 0, 0⟩)
end TG
namespace TG
open PySem PySem.Spec PyProof.Rows L2
/-! ### the head -/
def dd (i : Nat) (x : Str) : He.DefD := ⟨(x, none), x, x, defArgs (top i), defBody (top i), defScope (top i), [], []⟩
def dm (c i : Nat) (C m : Str) : He.DefD := ⟨(C, some m), m, C ++ "." ++ m, defArgs (mth c i), defBody (mth c i), defScope (mth c i), [], []⟩
def fnL : List He.DefD := [dd 17 "is_whole", dd 18 "is_sign", dd 19 "is_text_of_signs", dd 20 "is_row", dd 21 "first_misfit", dd 22 "check_page", dd 23 "check_row", dd 24 "check_style", dd 26 "stretches", dd 27 "closed_runs", dd 28 "is_closed", dd 29 "described", dd 30 "stands_right", dd 31 "is_figures", dd 33 "laid", dd 34 "closed_cells", dd 35 "left_ends", dd 36 "begins_of", dd 39 "check_number", dd 40 "check_fits", dd 41 "moved", dd 43 "route", dd 44 "ways", dd 45 "stepped", dd 46 "gone", dd 47 "check_steps", dd 48 "is_step", dd 50 "_law_begun", dd 51 "_law_take", dd 52 "_law_alike", dd 53 "_law_sign", dd 54 "_law_cell", dd 55 "_law_row", dd 56 "_law_page", dd 57 "_law_style", dd 58 "_law_near", dd 59 "law", dm 38 0 "Sheet" "__init__", dm 38 1 "Sheet" "put", dm 38 2 "Sheet" "take", dm 38 3 "Sheet" "change", dm 38 9 "Sheet" "page", dm 38 10 "Sheet" "begins", dm 38 11 "Sheet" "lay"]
def faL : List He.Fa := [.glo "is_whole", .glo "is_sign", .glo "is_text_of_signs", .glo "is_row", .glo "first_misfit", .glo "check_page", .glo "check_row", .glo "check_style", .glo "stretches", .glo "closed_runs", .glo "is_closed", .glo "described", .glo "stands_right", .glo "is_figures", .glo "laid", .glo "closed_cells", .glo "left_ends", .glo "begins_of", .glo "check_number", .glo "check_fits", .glo "moved", .glo "route", .glo "ways", .glo "stepped", .glo "gone", .glo "check_steps", .glo "is_step", .glo "_law_begun", .glo "_law_take", .glo "_law_alike", .glo "_law_sign", .glo "_law_cell", .glo "_law_row", .glo "_law_page", .glo "_law_style", .glo "_law_near", .glo "law", .int "BLANK" 32, .int "TILDE" 126, .int "PERCENT" 37, .int "MOST_ROWS" 30, .int "MOST_CELLS" 6, .int "MOST_SIGNS" 10, .int "MOST_GAP" 4, .int "MOST_LEAST" 12, .free "isinstance", .free "len", .free "range", .free "max", .free "min", .free "all", .free "str", .free "int", .free "bool", .free "list", .free "tuple", .free "enumerate", .free "ord", .free "zip", .free "abs", .glo "Sheet", .glo "GrowError", .glo "BadRow", .glo "BadCell", .cls "Sheet", .noat "Sheet" "rows", .noat "Sheet" "style", .noat "Sheet" "deeds", .mkr "Sheet", .exc "BadRow", .exc "BadCell", .exm "BadRow" "GrowError" true, .exm "BadCell" "GrowError" true, .meth "Sheet" "put", .meth "Sheet" "take", .meth "Sheet" "change", .meth "Sheet" "page", .meth "Sheet" "begins", .meth "Sheet" "lay"]
def tfB : List He.Defn := [("is_text_of_signs", none), ("is_row", none), ("stretches", none), ("described", none), ("stands_right", none)]
def lmL : List He.Defn := []
def tfL : List He.Defn := tfB ++ lmL
def exL : PySem.W.Frag → Bool := fun K => (lmL.all fun r => (tfB.all fun q => decide ((He.cT K q).2 ≠ (He.cT K r).2)) && (lmL.all fun q => decide (q = r) || decide ((He.cT K q).2 ≠ (He.cT K r).2)))
def constB (K : PySem.W.Frag) : Bool := true
def exC (K : PySem.W.Frag) : Bool := exL K && constB K
end TG


namespace TG
open PySem PySem.Spec PyProof.Rows L2
abbrev hdRow : PySem.W.OpenRow := PySem.W.OpenLaw.row PySem.Challenge.rw_tabgrow_k18_whole_no_shorter_route
abbrev hdHk : PySem.W.Hook := He.hookX 4 faL fnL [] tfL exC
def hdOb (s : PySem.W.SharedT) : He.AlX := He.obsX 4 faL fnL [] tfL exC (HandSHeadRun.getT s)
theorem hdOb_eq (s : PySem.W.SharedT) : hdOb s = hdHk.obs s.abs := He.obsX_eq (HandSHeadRun.getT_eq s)
def loose0 : List Str := [PySem.Str.ofString "_wall", PySem.Str.ofString "GrowError", PySem.Str.ofString "BadPage", PySem.Str.ofString "BadStyle", PySem.Str.ofString "BadRow", PySem.Str.ofString "BadCell", PySem.Str.ofString "BadStep", PySem.Str.ofString "MOST_ROWS", PySem.Str.ofString "MOST_CELLS", PySem.Str.ofString "MOST_SIGNS", PySem.Str.ofString "MOST_GAP", PySem.Str.ofString "MOST_LEAST", PySem.Str.ofString "BLANK", PySem.Str.ofString "TILDE", PySem.Str.ofString "PERCENT", PySem.Str.ofString "is_whole", PySem.Str.ofString "is_sign", PySem.Str.ofString "is_text_of_signs", PySem.Str.ofString "is_row", PySem.Str.ofString "first_misfit"]
def loose1 : List Str := [PySem.Str.ofString "check_page", PySem.Str.ofString "check_row", PySem.Str.ofString "check_style", PySem.Str.ofString "stretches", PySem.Str.ofString "closed_runs", PySem.Str.ofString "is_closed", PySem.Str.ofString "described", PySem.Str.ofString "stands_right", PySem.Str.ofString "is_figures", PySem.Str.ofString "laid", PySem.Str.ofString "closed_cells", PySem.Str.ofString "left_ends", PySem.Str.ofString "begins_of", PySem.Str.ofString "Sheet", PySem.Str.ofString "check_number", PySem.Str.ofString "check_fits", PySem.Str.ofString "moved", PySem.Str.ofString "route", PySem.Str.ofString "ways", PySem.Str.ofString "stepped"]
def loose2 : List Str := [PySem.Str.ofString "gone", PySem.Str.ofString "check_steps", PySem.Str.ofString "is_step", PySem.Str.ofString "_law_begun", PySem.Str.ofString "_law_take", PySem.Str.ofString "_law_alike", PySem.Str.ofString "_law_sign", PySem.Str.ofString "_law_cell", PySem.Str.ofString "_law_row", PySem.Str.ofString "_law_page", PySem.Str.ofString "_law_style", PySem.Str.ofString "_law_near"]
def looseL : List Str := loose0 ++ loose1 ++ loose2
theorem hdRun (w : World) : HandSHeadRun.RunEq hdRow (PySem.W.view hdRow.prog [59]) hdHk hdOb 9000 looseL w := by
  intro os
  kernel_rfl
end TG

namespace Gx
open PySem PySem.Spec PyProof.Rows L2 GenW
abbrev gE (X : Cx) (sc : Scope) (C : Addr) (code : Value) : Env :=
  genEnv sc (cloFrom X.env.cells sc.names []) C code builtinsNs X.env
/-- the context of the element -/
def gCx (X : Cx) (A : Around) (sc : Scope) (x : Str) (code : Value) (s4 : Shared) (H4 : Hp) (fp : List Addr) : Cx where
  prog := X.prog
  w := X.w
  K := X.K
  mg := X.mg
  base := X.base
  A := A.deeper (gE X sc s4.heap.objs.size code)
  N := [x]
  s_0 := s4
  H_0 := H4
  env := gE X sc s4.heap.objs.size code
  outer := X.stack
  stack := gE X sc s4.heap.objs.size code :: X.stack
  ex := fp
  fn := fun _ => false
  calm := true
  pn := []
  xe := fun _ _ => False
/-- the scope of a generator expression that captures nothing -/
structure GSc (sc : Scope) (x : Str) : Prop where
  kind : sc.kind = .function
  co : sc.isCoroutine = false
  cell : ∀ y ∈ sc.names, y.2 ≠ .cell
  free : ∀ y ∈ sc.names, y.2 ≠ .free
  dot : sc.names.lookup (".0" : Str) = some NameKind.local
  loc : sc.names.lookup x = some .local
section
variable {X : Cx} {pins : List (Addr × Obj)} {σ : L2.St} {H : Hp} {s : Shared} {A : Around} {sc : Scope} {x : Str} {code : Value} {fp : List Addr}
theorem no_cells (S : GSc sc x) (cells : List (Str × Addr)) {y : Str} {c : Addr} (h : (cloFrom cells sc.names []).lookup y = some c) : False := by
  rcases cloFrom_mem (PySem.mem_of_lookup h) with z | ⟨z, _⟩
  · cases z
  · exact S.free _ z rfl
theorem gx_inv (I : Inv X pins σ H s) (S : GSc sc x) (hd : A.handled = none) (hfr : A.frames = some X.stack) (hf : ∀ b ∈ fp, FpOk X pins H b)
    (hlt : ∀ b ∈ fp, b < s.heap.objs.size) {s5 : Shared} {m : Str → Option Value} (os : s5.os = s.os) (bare : AllBare s5.gens)
    (keep : ∀ b o, s.heap.get? b = some o → s5.heap.get? b = some o) (hns : s5.heap.Ns s.heap.objs.size m) :
    Inv (gCx X A sc x code s H fp) [] [none] H s5 := by
  have nc : ∀ {y : Str} {c : Addr}, (gCx X A sc x code s H fp).env.cells.lookup y = some c → False := fun {y c} h => no_cells S _ h
  refine ⟨⟨I.ok.mod, S.kind, I.ok.glob, rfl, Nat.le_refl _, fun y z c e _ => (nc e).elim, fun y hy => ?_, fun y c _ e => (nc e).elim, fun _ => hd,
      Around.frames_deeper hfr, .inr ⟨rfl, rfl⟩, fun b hb => ⟨Nat.ne_of_lt (hlt b hb), fun y c e => (nc e).elim⟩, I.bs, Nat.le_trans I.ok.bsz I.sz,
      fun b o e hb => ?_, fun b hb z => ?_, I.stack, I.stkFree⟩,
    os, bare, Un.kept keep, ⟨m, hns, fun i y v _ e2 _ => ?_⟩, fun y c e => (nc e).elim, I.hok.fresh (Nat.le_refl _), fun y c e => (nc e).elim,
    fun p hp => ?_, I.hok.kept keep, rfl⟩
  · rcases hy with z | z
    · exact absurd rfl (S.cell _ (PySem.mem_of_lookup (show sc.names.lookup y = some .cell from z)))
    · exact absurd rfl (S.free _ (PySem.mem_of_lookup (show sc.names.lookup y = some .free from z)))
  · rcases (hf b hb).2.2.2.1 with z | z
    · exact I.ok.noex b o e z
    · exact absurd (Nat.lt_of_lt_of_le (Heap.lt_size e) (Nat.le_trans I.ok.bsz z)) (Nat.lt_irrefl _)
  · rcases List.mem_cons.mp (I.stkSub b z) with q | q
    · exact (hf b hb).2.1 q
    · exact (hf b hb).2.2.1 q
  · match i, e2 with
    | 0, e2 => cases e2
    | i + 1, e2 => simp at e2
  · exact absurd (show p ∈ ([] : List (Addr × Obj)) from hp) (by simp)
/-- only the generators' states differ -/
theorem regens {s' : Shared} (I : Inv X pins σ H s) (os : s'.os = s.os) (hh : ∀ b o, s.heap.get? b = some o → s'.heap.get? b = some o) (hb : AllBare s'.gens) : Inv X pins σ H s' :=
  I.call' (ch := []) os (Un.kept hh) (I.hok.kept hh) hb fun b z => by simp at z
/-- the consumer's own list, if it has one -/
def Held (So : Option Addr) (Rel : Array Value → Prop) (ps : List (Addr × Obj)) : Prop :=
  match So with
  | none => ps = []
  | some S => ∃ acc c, ps = [(S, lstObj acc c)] ∧ Rel acc
structure Woke (So : Option Addr) (Rel : Array Value → Prop) (s s' : Shared) : Prop where
  os : s'.os = s.os
  bare : AllBare s'.gens
  keep : ∀ b o, So ≠ some b → s.heap.get? b = some o → s'.heap.get? b = some o
  own : ∀ S, So = some S → ∃ acc' c', s'.heap.get? S = some (lstObj acc' c') ∧ Rel acc'
theorem woken {Z : Cx} {q ps : List (Addr × Obj)} {So : Option Addr} {Rel Rel' : Array Value → Prop} {s' : Shared} (I : Inv Z (q ++ ps) σ H s) (hps : Held So Rel ps) (hq : ∀ p ∈ Z.pn ++ q, So ≠ some p.1)
    (hS : ∀ S, So = some S → Z.s_0.heap.objs.size ≤ S ∧ S ≠ Z.env.locals ∧ ∀ y c, Z.env.cells.lookup y = some c → c ≠ S) (k : Woke So Rel' s s') :
    ∃ ps', Held So Rel' ps' ∧ Inv Z (q ++ ps') σ H s' ∧ ∀ p ∈ ps', s'.heap.get? p.1 = some p.2 := by
  cases So with
  | none =>
    have e : ps = [] := hps
    subst e
    exact ⟨[], rfl, regens I k.os (fun b o e => k.keep b o (by simp) e) k.bare, fun p hp => by simp at hp⟩
  | some S =>
    obtain ⟨acc, c, e, _⟩ := hps
    subst e
    obtain ⟨h1, h2, h3, h4, _⟩ := I.pin (S, lstObj acc c) (List.mem_append_right _ (List.mem_append_right _ (List.mem_singleton.mpr rfl)))
    obtain ⟨acc', c', e', hR⟩ := k.own S rfl
    obtain ⟨g1, g2, g3⟩ := hS S rfl
    have I0 : Inv Z q σ H s := I.pins_of fun p hp => I.pin p (List.mem_append_right _ (List.mem_append_left _ hp))
    have nS : ∀ b u, H b = some u → b ≠ S := fun b u e z => by rw [z, h2] at e; cases e
    have kp : ∀ b o, b ≠ S → s.heap.get? b = some o → s'.heap.get? b = some o := fun b o hb e => k.keep b o (fun z => hb (Option.some.inj z).symm) e
    have ni : ∀ b : Addr, b ∉ [S] → b ≠ S := fun b hb e => hb (by rw [e]; exact List.mem_singleton.mpr rfl)
    have J : Inv Z q σ H s' := by
      refine I0.call' (ch := [S]) k.os ⟨fun b o e _ _ hx => kp b o (ni b hx) e, fun b o e _ _ hx => ⟨o.slots, kp b o (ni b hx) e⟩, fun _ _ _ n _ => n, fun b o e hx => ⟨o, kp b o (ni b hx) e⟩,
        fun _ _ e => e, fun _ _ _ e => e, fun _ _ e => ⟨#[], by rw [e]; simp⟩⟩ (fun b u e => ?_) k.bare fun b hb => ?_
      · refine (I0.hok b u e).stay (fun d v hd z => kp d v ?_ z) (fun _ z => z) fun _ _ z => z
        rcases hd with z | z
        · rw [z]; exact nS b u e
        · exact nS d _ z
      · have eb : b = S := List.mem_singleton.mp hb
        subst eb
        exact ⟨.inr g1, g2, g3, fun p hp z => hq p hp (by rw [z])⟩
    refine ⟨[(S, lstObj acc' c')], ⟨acc', c', rfl, hR⟩, J.pins_of fun p hp => ?_, fun p hp => by rw [List.mem_singleton.mp hp]; exact e'⟩
    rcases List.mem_append.mp hp with z | z
    · exact J.pin p (List.mem_append_right _ z)
    · rw [List.mem_singleton.mp z]
      exact ⟨e', h2, h3, h4, fun v z => by cases z⟩
abbrev WT := Nat → List V → Hp → Prop
/-- an item is handed out -/
def GYx (Z : Cx) (q : List (Addr × Obj)) (So : Option Addr) (Rel : List V → Array Value → Prop) (W : WT) (Ny : Nat → List V → V → Hp → Prop) : Protocol := fun n s₀ v s1 kap =>
  ∃ m ys y σ H ps, m < n + 1 ∧ RelV y v ∧ Held So (Rel ys) ps ∧ (∀ p ∈ ps, s₀.heap.get? p.1 = some p.2) ∧ Inv Z (q ++ ps) σ H s1 ∧ Ny m ys y H ∧ ∀ s', Woke So (Rel (ys ++ [y])) s1 s' → ∀ m', m' < m → W m' (ys ++ [y]) H → kap (.send .none) s'
def GFx (Z : Cx) (q : List (Addr × Obj)) (So : Option Addr) (Rel : List V → Array Value → Prop) (Ns : List V → Hp → Prop) (s₀ s1 : Shared) : Prop :=
  ∃ ys σ H ps, Held So (Rel ys) ps ∧ (∀ p ∈ ps, s₀.heap.get? p.1 = some p.2) ∧ Inv Z (q ++ ps) σ H s1 ∧ Ns ys H
abbrev GRx (Z : Cx) (q : List (Addr × Obj)) (So : Option Addr) (Rel : List V → Array Value → Prop) (Ns : List V → Hp → Prop) : GenEnd := fun n s₀ r s₁ =>
  ((r = .ok (.ret .none) ∨ r = .ok .next) ∧ (fun (_ : Nat) (t : Shared) s => GFx Z q So Rel Ns t s) n s₀ s₁) ∨ ∃ e, r = .error e ∧ (fun (_ : Value) (_ : Shared) => False) e s₁
theorem seg_turns {elt iter : Expr} {px : Pos} {pos : Pos} {it : Addr} {J : It} {tn : Nat → Heap → Prop} {te : TE} {W : WT} {Ny : Nat → List V → V → Hp → Prop} {Ns : List V → Hp → Prop} {s4 : Shared} {H4 : Hp}
    {q : List (Addr × Obj)} {So : Option Addr} {Rel : List V → Array Value → Prop}
    (S : GSc sc x) (T : Turn X.prog X.w X.K (.Name x px) J fp it tn)
    (stat : ∀ b ∈ fp, b ≠ s4.heap.objs.size ∧ b ∉ frs X.stack ∧ (∀ p ∈ q, p.1 ≠ b) ∧ So ≠ some b)
    (hq : ∀ p ∈ q, So ≠ some p.1) (hS : ∀ S', So = some S' → s4.heap.objs.size < S')
    (he : PE (gCx X A sc x code s4 H4 fp) elt te)
    (step : ∀ m ys H, W m ys H → (J.stop ys.length H ∧ Ns ys H) ∨ (J.go ys.length H ∧ ∀ v H', J.yld ys.length H v H' → te [some v] H' (Ny m ys))) :
    ∀ (n m : Nat) (ys : List V) (s₀ s : Shared) (σ : L2.St) (H : Hp) (ps : List (Addr × Obj)), m < n → Held So (Rel ys) ps → (∀ p ∈ ps, s₀.heap.get? p.1 = some p.2) → W m ys H → Inv (gCx X A sc x code s4 H4 fp) (q ++ ps) σ H s → tn ys.length s.heap → (∀ b ∈ fp, H b = none) →
      Seg (model X.prog X.w) A (GRx (gCx X A sc x code s4 H4 fp) q So Rel Ns) (GYx (gCx X A sc x code s4 H4 fp) q So Rel W Ny) n s₀
        (.compLoop (.GeneratorExp elt [⟨.Name x px, iter, [], 0⟩] sc pos) 0 (.ref it) .none (gE X sc s4.heap.objs.size code))
        ((model X.prog X.w).den (.compLoop (.GeneratorExp elt [⟨.Name x px, iter, [], 0⟩] sc pos) 0 (.ref it) .none (gE X sc s4.heap.objs.size code))) [] s := by
  have nc : ∀ {y : Str} {c : Addr}, (gCx X A sc x code s4 H4 fp).env.cells.lookup y = some c → False := fun {y c} h => no_cells S _ h
  intro n
  induction n with
  | zero => intro m _ _ _ _ _ _ hm; exact absurd hm (Nat.not_lt_zero _)
  | succ n ih =>
    intro m ys s₀ s σ H ps hm hps hs0 hW I htn hfn
    have fok : ∀ {H' : Hp}, (∀ b ∈ fp, H' b = none) → ∀ b ∈ fp, FpOk (gCx X A sc x code s4 H4 fp) (q ++ ps) H' b := fun {H'} hn b hb => by
      obtain ⟨a1, a2, a3, a4⟩ := stat b hb
      refine ⟨hn b hb, a1, a2, .inl hb, fun y c e => (nc e).elim, fun p hp => ?_⟩
      rcases List.mem_append.mp (show p ∈ q ++ ps from hp) with z | z
      · exact a3 p z
      · cases So with
        | none =>
          have e : ps = [] := hps
          rw [e] at z
          simp at z
        | some S' =>
          obtain ⟨acc, c, e, _⟩ := hps
          rw [e] at z
          rw [List.mem_singleton.mp z]
          exact fun w => a4 (by rw [← w])
    show Seg _ A _ _ _ s₀ _ ((compTurn (.GeneratorExp elt [⟨.Name x px, iter, [], 0⟩] sc pos) 0 (.ref it) .none (gE X sc s4.heap.objs.size code)).onRaise (leaving (gE X sc s4.heap.objs.size code))) [] s
    rw [compTurn_gen, Sem.onRaise_eq_wrap]
    refine seg_bind_wrap (wpAny_standAt ?_)
    rcases step m ys H hW with ⟨stop, qn⟩ | ⟨go, st⟩
    · refine seg_bind_wrap (thn (T.done (gCx X A sc x code s4 H4 fp) rfl rfl rfl rfl ys.length (q ++ ps) s σ H _ I (fok hfn) htn stop) fun r s5 ⟨hr, I5⟩ => ?_)
      subst hr
      exact seg_end (.ok .next) (.inl ⟨.inr rfl, ys, σ, H, ps, hps, hs0, I5, qn⟩)
    · refine seg_bind_wrap (thn (T.item (gCx X A sc x code s4 H4 fp) rfl rfl rfl rfl ys.length (q ++ ps) s σ H _ I (fok hfn) htn go) fun r s5 ⟨u, hr, h5⟩ => ?_)
      subst hr
      refine seg_bind_wrap (thn h5 fun _ s6 ⟨v, H6, I6, r6, y6, tn6, fn6⟩ => ?_)
      have I6' := I6.pinned (fok fn6) (T.obj _ _ tn6)
      have pg : PG (gCx X A sc x code s4 H4 fp) (.Name x px) (gName 0) := pg_name (i := 0) (List.nodup_cons.mpr ⟨by simp, List.nodup_nil⟩) rfl (.inl S.loc) (.inr S.loc)
      have eσ : σ.set 0 (some v) = [some v] := by
        have hl : σ.length = 1 := I.len
        match σ, hl with
        | [_], _ => rfl
      refine seg_bind_wrap (wpAny_mono (pg.run _ s6 σ H6 v u (fun σ' H' => σ' = [some v] ∧ H' = H6) I6' r6 ⟨eσ, rfl⟩) (fun _ s7 h7 => ?_) fun _ _ z => z.elim)
      obtain ⟨σ7, H7, I7, eσ7, eH7⟩ := h7
      subst eσ7 eH7
      simp only [List.forIn_nil]
      refine seg_bind_wrap (wpAny_pure ?_)
      simp only [if_true]
      have hy : ∀ v, yieldOut (gE X sc s4.heap.objs.size code) v = yieldValue v := fun v => by
        simp only [yieldOut, show (gE X sc s4.heap.objs.size code).scope.isCoroutine = false from S.co, Bool.false_eq_true, if_false]
      simp only [hy]
      rw [Sem.bind_eq_wrap', Sem.bind_eq_wrap', Sem.wrap_wrap, Sem.wrap_wrap]
      refine seg_wrap (wpAny_mono (he.run _ s7 [some v] H7 _ I7 (st v H7 y6)) (fun w s8 h8 => ?_) fun _ _ z => z.elim)
      obtain ⟨y, H8, I8, r8, ny⟩ := h8
      have fn8 : ∀ b ∈ fp, H8 b = none := fun b hb => by
        obtain ⟨o, e, d⟩ := T.obj _ _ tn6 b hb
        exact (I8.pin (b, o) (List.mem_append_right _ (List.mem_append_right _ (mem_pinsAt hb e)))).2.1
      have tn8 : tn (ys.length + 1) s8.heap := T.keep _ _ _ tn6 fun b hb o e => (I8.pin (b, o) (List.mem_append_right _ (List.mem_append_right _ (mem_pinsAt hb e)))).1
      refine seg_at (seg_yield rfl rfl rfl ⟨m, ys, y, [some v], H8, ps, hm, r8, hps, hs0, I8.unpinned, ny, fun s9 wk m' hm' w' => ?_⟩)
      obtain ⟨ps', hps', I9, e9⟩ := woken I8.unpinned hps (fun p hp => hq p hp) (fun S' e => ⟨Nat.le_of_lt (hS S' e), Nat.ne_of_gt (hS S' e), fun y c e => (nc e).elim⟩) wk
      refine seg_again rfl (ih m' (ys ++ [y]) s9 s9 [some v] H8 ps' (by omega) hps' e9 w' I9 ?_ fn8)
      rw [List.length_append, List.length_singleton]
      exact T.keep _ _ _ tn8 fun b hb o e => wk.keep b o (stat b hb).2.2.2 e
end
end Gx
namespace Gx
open PySem PySem.Spec PyProof.Rows L2 GenW
section
variable {X : Cx} {pins : List (Addr × Obj)} {σ : L2.St} {H : Hp} {s : Shared} {sc : Scope} {x : Str}
theorem seg_begin {A : Around} {elt iter : Expr} {px pos : Pos} {it : Addr} {J : It} {fp : List Addr} {tn : Nat → Heap → Prop} {cenv : Env} {R : GenEnd} {Y : Protocol} {n : Nat} {s₀ : Shared}
    (T : Turn X.prog X.w X.K (.Name x px) J fp it tn) (ht : tn 0 s.heap)
    (loop : Seg (model X.prog X.w) A R Y n s₀ (.compLoop (.GeneratorExp elt [⟨.Name x px, iter, [], 0⟩] sc pos) 0 (.ref it) .none cenv) ((model X.prog X.w).den (.compLoop (.GeneratorExp elt [⟨.Name x px, iter, [], 0⟩] sc pos) 0 (.ref it) .none cenv)) [] s) :
    Seg (model X.prog X.w) A R Y n s₀ (.compStart (.GeneratorExp elt [⟨.Name x px, iter, [], 0⟩] sc pos) 0 (.ref it) .none cenv) ((model X.prog X.w).den (.compStart (.GeneratorExp elt [⟨.Name x px, iter, [], 0⟩] sc pos) 0 (.ref it) .none cenv)) [] s := by
  show Seg _ A R Y n s₀ _ ((compStart (.GeneratorExp elt [⟨.Name x px, iter, [], 0⟩] sc pos) 0 (.ref it) .none cenv).onRaise (leaving cenv)) [] s
  unfold compStart
  rw [Sem.onRaise_eq_wrap]
  show Seg _ A R Y n s₀ _ ((ask >>= _).wrap _ _ _ _) [] s
  refine seg_bind_wrap (wpAny_askSetting ?_)
  split
  · exact seg_again rfl loop
  · first
      | exact seg_bind_wrap (wpAny_rule (seg_bind_wrap (wpAny_standAt (seg_bind_wrap (T.self _ 0 s _ _ ht (seg_again rfl loop))))))
      | (refine seg_bind_wrap (wpAny_rule ?_); show Seg _ A R Y n s₀ _ ((standAt iter.pos >>= _).wrap _ _ _ _) [] s; exact seg_bind_wrap (wpAny_standAt (seg_bind_wrap (T.self _ 0 s _ _ ht (seg_again rfl loop)))))
/-- the reading of a generator expression: W the state between two turns, by a measure, what was handed out, the heap -/
def tGen (P : Addr) (wi : TI) (te : TE) (NyOf : WT → Nat → List V → V → Hp → Prop) (Ns : List V → Hp → Prop) : L2.St → Hp → Prop := fun σ H =>
  wi σ H fun J H1 => GxR.TabG H1 P ∧ ∀ H2, GxR.Tabbed P H1 H2 → ∃ W : WT, (∃ m, W m [] H2) ∧ ∀ m ys H, W m ys H →
    (J.stop ys.length H ∧ Ns ys H) ∨ (J.go ys.length H ∧ ∀ v H', J.yld ys.length H v H' → te [some v] H' (NyOf W m ys))
theorem code_step {A : Around} {E : Value → Shared → Prop} {Q : Value → Shared → Prop} {c P : Addr} {gpos : Pos} (I : Inv X pins σ H s) (TB : GxR.TabB X.base X.mg c P) (hcode : X.env.code = .ref c) (hT : GxR.TabG H P)
    (h : ∀ (code : Value) (H3 : Hp) (s3 : Shared), GxR.Tabbed P H H3 → Inv X pins σ H3 s3 → (∀ b o, b ≠ P → s.heap.get? b = some o → s3.heap.get? b = some o) → Q code s3) :
    wpAny (model X.prog X.w) A (genexprCode X.env gpos (X.env.qual ++ "<genexpr>") sc) Q E s := by
  obtain ⟨ps, hP, ht⟩ := id hT
  have hPs : s.heap.get? P = some { cls := .none, data := .fields ps } := I.hok P _ hP
  have cd : PySem.W.CodeHd s.heap c P := TB.code.keeps I.bk
  cases hf : codeAmong gpos ps.toList with
  | none =>
    refine wpAny_genexprCodeX hcode (cd.code hPs ht) (cd.tab hPs) hf fun c' h' tk hx hge hlt hco' _ htab' _ => ?_
    obtain ⟨o1, vs, f1, tf, fl, tg, inF, tx, tt, op, _, _, _, _, _, _, _, _, _, htr, _⟩ := hco'
    have J := GxR.inv_tab (t' := tk) (g' := s.gens) (d' := s.drawn) I hP (fun b o hb e => hx b o hb e) htab'.2 I.bare
    exact h _ _ _ ⟨⟨_, upd_same, htr⟩, fun b hb => upd_ne hb⟩ J fun b o hb e => hx b o hb e
  | some cv =>
    refine wpAny_genexprCode_hit hcode (cd.code hPs ht) hf ?_
    exact h _ H s ⟨hT, fun _ _ => rfl⟩ I fun _ _ _ e => e
end
end Gx
namespace Gx
open PySem PySem.Spec PyProof.Rows L2 GenW
section
variable {X : Cx} {pins : List (Addr × Obj)} {σ : L2.St} {H : Hp} {s : Shared} {sc : Scope} {x : Str}
/-- a generator that has not begun, at a in s5 -/
def Begun1 (X : Cx) (pins : List (Addr × Obj)) (σ : L2.St) (k : Nat) (Rel : List V → Array Value → Prop) (NyOf : WT → Nat → List V → V → Hp → Prop) (Ns : List V → Hp → Prop) (a : Addr) (s5 : Shared) : Prop :=
  ∃ (g : Nat) (c : Code) (H4 : Hp), s5.heap.IsGen a g ∧ s5.gens[g]? = some (.fresh c) ∧ Inv X pins σ H4 s5 ∧ a < s5.heap.objs.size ∧
    ∀ (A : Around) (So : Option Addr) (s6 : Shared), Room (k + 1) A → A.frames = some X.stack → (∀ S, So = some S → s5.heap.objs.size ≤ S ∧ ∃ acc c, s6.heap.get? S = some (lstObj acc c) ∧ Rel [] acc) →
      (∀ b o, s5.heap.get? b = some o → s6.heap.get? b = some o) → s6.os = s5.os → AllBare s6.gens →
      ∃ (Z : Cx) (q : List (Addr × Obj)) (W : WT) (m0 : Nat),
        (∀ ps σz Hz s7, Inv Z (q ++ ps) σz Hz s7 → Inv X pins σ Hz s7 ∧ s7.heap.IsGen a g) ∧
        Seg (model X.prog X.w) A (GRx Z q So Rel Ns) (GYx Z q So Rel W (NyOf W)) (m0 + 1) s6 c ((model X.prog X.w).den c) [] s6
theorem gx_make {elt iter : Expr} {px gpos : Pos} {c P : Addr} {wi : TI} {te : TE} {k j : Nat} {Rel : List V → Array Value → Prop} {NyOf : WT → Nat → List V → V → Hp → Prop} {Ns : List V → Hp → Prop} {Q' : Value → Shared → Prop}
    (hr : Room j X.A) (TB : GxR.TabB X.base X.mg c P) (hcode : X.env.code = .ref c) (S : GSc sc x) (hi : PI X (.Name x px) iter wi)
    (he : ∀ (A : Around) (code : Value) (s4 : Shared) (H4 : Hp) (fp : List Addr), Room k (A.deeper (gE X sc s4.heap.objs.size code)) → PE (gCx X A sc x code s4 H4 fp) elt te)
    (hs : ∀ v, genFold iter X.env v = pure v) (I : Inv X pins σ H s) (h : tGen P wi te NyOf Ns σ H)
    (hQ : ∀ a s5, Begun1 X pins σ k Rel NyOf Ns a s5 → Q' (.ref a) s5) :
    wpAny (model X.prog X.w) X.A (eval (.GeneratorExp elt [⟨.Name x px, iter, [], 0⟩] sc gpos) X.env) Q' X.xe s := by
  refine wpAny_GeneratorExp_make S.co (closure_ok fun y hy z => absurd z (S.free y hy)) S.cell S.dot S.kind hr.depth ?_ hs
  refine thn (hi.run pins s σ H _ I h) fun xv s1 h1 => thn h1 fun itv s2 h2 => ?_
  obtain ⟨it, fp, tn, J, H2, e, I2, T, st2, f2, hT, hW⟩ := h2
  subst e
  refine ⟨I2.nolimit, code_step I2 TB hcode hT fun code H3 s3 hTb I3 kp3 => ?_⟩
  obtain ⟨bm, ob, e1, e2, e3, e4, e5, e6, e7, e8⟩ := TB.bm
  refine wpAny_builtinsFor (m := X.mg) (by rw [I3.ok.glob]; exact I3.mod.glob.keeps I3.bk) e1 e2 (I3.bk _ _ e5) e6 e7 e8 fun h' hn' hs' => ?_
  obtain ⟨W, ⟨m0, w0⟩, step⟩ := hW H3 hTb
  have hTP : H2 P ≠ none := by
    obtain ⟨ps, z, _⟩ := hT
    rw [z]; exact fun q => nomatch q
  have nP : ∀ b ∈ fp, b ≠ P := fun b hb z => hTP (by rw [← z]; exact (f2 b hb).1)
  have f3 : ∀ b ∈ fp, FpOk X pins H3 b := fun b hb => ⟨(hTb.2 b (nP b hb)).trans (f2 b hb).1, (f2 b hb).2⟩
  have tn3 : tn 0 s3.heap := T.keep _ _ _ st2 fun b hb o q => kp3 b o (nP b hb) q
  have lt3 : ∀ b ∈ fp, b < s3.heap.objs.size := fun b hb => by
    obtain ⟨o, q, _⟩ := T.obj _ _ tn3 b hb
    exact Heap.lt_size q
  have hsz : h'.objs.size = s3.heap.objs.size + 1 := by rw [hs'.1, Heap.size_push]
  have kp' : ∀ b o, s3.heap.get? b = some o → h'.get? b = some o := fun b o q => hs'.extBut b o (Nat.ne_of_lt (Heap.lt_size q)) (Heap.get?_push_of_some _ q)
  refine hQ _ _ ⟨s3.gens.size, _, H3, ⟨_, _, _, Heap.get?_push_size _ rfl, rfl, rfl, rfl⟩, Array.getElem?_push_size .., ?_, ?_, fun A So s6 hrA hfr hSo kp6 os6 b6 => ?_⟩
  · exact regens I3 rfl (fun b o q => Heap.get?_push_of_some _ (kp' b o q)) (AllBare.push I3.bare rfl)
  · show h'.objs.size < (h'.push _).objs.size
    rw [Heap.size_push]; exact Nat.lt_succ_self _
  · have kp36 : ∀ b o, s3.heap.get? b = some o → s6.heap.get? b = some o := fun b o q => kp6 b o (Heap.get?_push_of_some _ (kp' b o q))
    have hns6 : s6.heap.Ns s3.heap.objs.size (fun y => if y = ".0" then some (.ref it) else none) := by
      obtain ⟨o, es, ep, ho, r⟩ := hn'
      exact ⟨o, es, ep, kp6 _ _ (Heap.get?_push_of_some _ ho), r⟩
    have IZ := gx_inv (code := code) (A := A) I3 S hrA.hd hfr f3 lt3 (s5 := s6) os6 b6 kp36 hns6
    have big : ∀ b, s3.heap.objs.size < b → H3 b = none ∧ b ≠ s3.heap.objs.size ∧ b ∉ frs X.stack := fun b hb => by
      refine ⟨I3.hok.fresh (Nat.le_of_lt hb), Nat.ne_of_gt hb, fun z => ?_⟩
      rcases List.mem_cons.mp (I3.stkSub b z) with w | w
      · exact absurd (Nat.lt_trans (by rw [w]; exact I3.lt) hb) (Nat.lt_irrefl _)
      · exact I3.nofs (Nat.le_of_lt hb) w
    have ha : s3.heap.objs.size < h'.objs.size := by rw [hsz]; exact Nat.lt_succ_self _
    have hga := kp6 h'.objs.size _ (Heap.get?_push_size _ rfl)
    have hSb : ∀ S', So = some S' → h'.objs.size < S' := fun S' z => by
      have q := (hSo S' z).1
      have q' : (h'.push _).objs.size ≤ S' := q
      rw [Heap.size_push] at q'
      exact q'
    obtain ⟨ps, hps, IZ2⟩ : ∃ ps, Held So (Rel []) ps ∧ Inv (gCx X A sc x code s3 H3 fp) ([(h'.objs.size, _)] ++ ps) [none] H3 s6 := by
      cases So with
      | none =>
        refine ⟨[], rfl, IZ.pins_of fun p hp => ?_⟩
        rw [List.append_nil] at hp
        rw [List.mem_singleton.mp hp]
        obtain ⟨b1, b2, b3⟩ := big _ ha
        exact ⟨hga, b1, b2, b3, fun v z => by cases z⟩
      | some S' =>
        obtain ⟨_, acc, cc, q2, hR⟩ := hSo S' rfl
        refine ⟨[(S', lstObj acc cc)], ⟨acc, cc, rfl, hR⟩, IZ.pins_of fun p hp => ?_⟩
        rcases List.mem_append.mp hp with z | z
        · rw [List.mem_singleton.mp z]
          obtain ⟨b1, b2, b3⟩ := big _ ha
          exact ⟨hga, b1, b2, b3, fun v z => by cases z⟩
        · rw [List.mem_singleton.mp z]
          obtain ⟨b1, b2, b3⟩ := big _ (Nat.lt_trans ha (hSb S' rfl))
          exact ⟨q2, b1, b2, b3, fun v z => by cases z⟩
    have hSne : ∀ b, b ≤ h'.objs.size → So ≠ some b := fun b hb z => absurd (Nat.lt_of_lt_of_le (hSb b z) hb) (Nat.lt_irrefl _)
    refine ⟨gCx X A sc x code s3 H3 fp, [(h'.objs.size, { cls := .type "generator", data := .fields #[.int s3.gens.size 0, .str "<genexpr>" (s3.toks + 1), .str (X.env.qual ++ "<genexpr>") (s3.toks + 1 + 1)] })], W, m0, fun ps σz Hz s7 J7 => ⟨?_, ?_⟩, ?_⟩
    · refine I3.call' (ch := fp) J7.os J7.base J7.hok J7.bare fun b hb => ?_
      obtain ⟨_, a2, _, a4, a5, a6⟩ := f3 b hb
      exact ⟨a4, a2, a5, a6⟩
    · exact ⟨_, _, _, (J7.pin _ (List.mem_append_right _ (List.mem_append_left _ (List.mem_singleton.mpr rfl)))).1, rfl, rfl, rfl⟩
    · refine seg_begin T (T.keep _ _ _ tn3 fun b hb o q => kp36 b o q) ?_
      refine seg_turns S T (fun b hb => ⟨Nat.ne_of_lt (lt3 b hb), fun z => ?_, fun p hp z => ?_, hSne b (Nat.le_of_lt (Nat.lt_trans (lt3 b hb) ha))⟩) (fun p hp => ?_) (fun S' z => Nat.lt_trans ha (hSb S' z)) (he A code s3 H3 fp (hrA.deeper _)) step
        (m0 + 1) m0 [] s6 s6 [none] H3 ps (Nat.lt_succ_self _) hps (fun p hp => (IZ2.pin p (List.mem_append_right _ (List.mem_append_right _ hp))).1) w0 IZ2 (T.keep _ _ _ tn3 fun b hb o q => kp36 b o q) fun b hb => (f3 b hb).1
      · rcases List.mem_cons.mp (I3.stkSub b z) with w | w
        · exact (f3 b hb).2.1 w
        · exact (f3 b hb).2.2.1 w
      · rw [List.mem_singleton.mp hp] at z
        have q : h'.objs.size = b := z
        exact absurd (Nat.lt_trans (lt3 b hb) ha) (by rw [q]; exact Nat.lt_irrefl _)
      · rw [List.mem_singleton.mp hp]
        exact hSne _ (Nat.le_refl _)
end
end Gx
namespace Gx
open PySem PySem.Spec PyProof.Rows L2 GenW
section
variable {X : Cx} {pins : List (Addr × Obj)} {σ : L2.St} {H : Hp} {s : Shared} {sc : Scope} {x : Str}
def NyAll (Qb : Bool → Hp → Prop) (W : WT) : Nat → List V → V → Hp → Prop := fun m ys y H => ∃ b : Bool, y = .bl b ∧ if b = true then ∃ m', m' < m ∧ W m' (ys ++ [y]) H else Qb false H
abbrev noRel : List V → Array Value → Prop := fun _ _ => True
theorem all_turns {Z : Cx} {q : List (Addr × Obj)} {W : WT} {Qb : Bool → Hp → Prop} {A : Around} {a : Addr} {g : Nat} {Rr : Result → Shared → Prop} (hh : A.handled = none) (hd : A.depth < recursionLimit)
    (fin : ∀ ps σz Hz s7, Inv Z (q ++ ps) σz Hz s7 → Inv X pins σ Hz s7 ∧ s7.heap.IsGen a g)
    (hdone : ∀ b H' s', Inv X pins σ H' s' → Qb b H' → Rr (.ok (.ret (.bool b))) s') :
    ∀ (n : Nat) (s : Shared), s.heap.IsGen a g → s.heap.NoLimit →
      (∃ gs, s.gens[g]? = some gs ∧ gs.Goes (model X.prog X.w) A.in1.in1 (GRx Z q none noRel fun _ => Qb true) (GYx Z q none noRel W (NyAll Qb W)) n (.send .none) (s.setGen g .running)) →
      codeAny (model X.prog X.w) A (.builtin "all.loop" ⟨[.ref a], []⟩) Rr s := by
  intro n
  induction n using Nat.strongRecOn with
  | ind n ih =>
    intro s hg hl ⟨gs, hgs, hgo⟩
    have hgl : g < s.gens.size := (Array.getElem?_eq_some_iff.mp hgs).1
    refine codeAny_builtin F.entry_all_loop ?_; rw [Around.under_plainId F.plain_all_loop _]
    show wpAny _ A.in1 (pyNext (.ref a) >>= _) _ _ s
    refine wpAny_bind (wpAny_gsz (n := g + 1) hgl (next_genG (A := A.in1) hh hl hd hg hgs hgo (fun v s₁ gs' hbare hv => ?_) (fun s₁ hp h' hk => ?_) fun e s₁ he => he.elim))
    · intro hsz
      obtain ⟨m, ys, y, σz, Hz, ps, hm, rv, hps, _, J, ⟨b, eb, hb⟩, hkap⟩ := hv
      subst eb
      have eps : ps = [] := hps
      subst eps
      have ev : v = Value.bool b := rv
      subst ev
      obtain ⟨I1, g1⟩ := fin _ _ _ _ J
      have hsz1 : g < s₁.gens.size := by
        have q1 : (s₁.setGen g gs').gens.size = s₁.gens.size := setGen_size _ _ _
        have q2 : g + 1 ≤ (s₁.setGen g gs').gens.size := hsz
        omega
      have bare2 : AllBare (s₁.setGen g gs').gens := allBare_setGen I1.bare hbare
      refine wpAny_bind (wpAny_holding (wpAny_truthy_bool ?_))
      refine wpAny_bind (wpAny_letGo ?_)
      cases b with
      | true =>
        obtain ⟨m', hm', hw⟩ : ∃ m', m' < m ∧ W m' (ys ++ [V.bl true]) Hz := by simpa using hb
        simp only [if_true]
        cases n with
        | zero => omega
        | succ n =>
          refine wpAny_pure ⟨plainId_quiet F.plain_all_loop _, ih n (Nat.lt_succ_self n) (s₁.setGen g gs') g1 I1.nolimit ⟨gs', setGen_at hsz1, ?_⟩⟩
          exact hkap ((s₁.setGen g gs').setGen g .running) ⟨rfl, allBare_setGen bare2 rfl, fun b o _ e => e, fun S z => by cases z⟩ m' hm' hw
      | false =>
        have hq : Qb false Hz := by simpa using hb
        simp only [Bool.false_eq_true, if_false]
        exact wpAny_bind (wpAny_rule (wpAny_pure (hdone false Hz _ (regens I1 rfl (fun _ _ e => e) bare2) hq)))
    · intro hsz
      obtain ⟨ys, σz, Hz, ps, hps, _, J, hq⟩ := hp
      have eps : ps = [] := hps
      subst eps
      obtain ⟨I1, g1⟩ := fin _ _ _ _ J
      exact wpAny_bind (wpAny_rule (wpAny_pure (hdone true Hz _ (regens I1 rfl (fun b o e => hk b o e) (allBare_setGen I1.bare rfl)) hq)))
/-- all(elt for x in iter) -/
def tAllG (P : Addr) (wi : TI) (te : TE) : TE := fun σ H Q => tGen P wi te (NyAll fun b H => Q (.bl b) H) (fun _ H => Q (.bl true) H) σ H
theorem pe_allG {elt iter : Expr} {px p pos gpos : Pos} {c P : Addr} {wi : TI} {te : TE} {k : Nat}
    (hr : Room (k + 3) X.A) (hg : Gl X "all") (hm : X.mg "all" = none) (TB : GxR.TabB X.base X.mg c P) (hcode : X.env.code = .ref c) (S : GSc sc x) (hi : PI X (.Name x px) iter wi)
    (he : ∀ (A : Around) (code : Value) (s4 : Shared) (H4 : Hp) (fp : List Addr), Room k (A.deeper (gE X sc s4.heap.objs.size code)) → PE (gCx X A sc x code s4 H4 fp) elt te)
    (hs : ∀ v, genFold iter X.env v = pure v)
    (hst : starEach [.GeneratorExp elt [⟨.Name x px, iter, [], 0⟩] sc gpos] X.env = (false, eval (.GeneratorExp elt [⟨.Name x px, iter, [], 0⟩] sc gpos) X.env) :: starEach [] X.env := by rfl) :
    PE X (.Call (.Name "all" p) [.GeneratorExp elt [⟨.Name x px, iter, [], 0⟩] sc gpos] [] pos) (tAllG P wi te) := by
  refine ⟨fun pins s σ H Q I h => ?_⟩
  have hb : bootBuiltins "all" = some (.builtin "all") := by decide +kernel
  refine wpAny_Call_Name_kw (ld_blt I hg hm hb (PyProof.Rows.callWith_builtin1 ?_ hst (by rfl)))
  rw [hst]
  show wpAny _ _ (spliced ((false, eval (.GeneratorExp elt [⟨.Name x px, iter, [], 0⟩] sc gpos) X.env) :: backTo pos (starEach [] X.env))) _ _ s
  refine Calls.spliced_cons (gx_make (k := k) (Rel := noRel) hr TB hcode S hi he hs I h fun a s5 hB => Calls.spliced_nil ?_)
  obtain ⟨g, cd, H4, hgen, hfresh, I5, ha, wake⟩ := hB
  refine call_function_tree F.kind_all F.plain_all F.entry_all (F.args_all1 _) ?_
  unfold Builtin.«all»
  refine wpAny_bind (m := oneArg "all" _) (wpAny_pure (wpAny_bind (wpAny_pyIter_gen hgen ?_)))
  obtain ⟨Z, q, W, m0, fin, seg⟩ := wake X.A.in1.in1 none (s5.setGen g .running) ((hr.mono (by omega : k + 1 + 1 + 1 ≤ k + 3)).in1.in1) I.ok.frames (fun S z => by cases z) (fun _ _ e => e) rfl (allBare_setGen I5.bare rfl)
  refine wpAny_pure ⟨plainId_quiet F.plain_all_loop _, all_turns (Qb := fun b H => Q (.bl b) H) hr.hd hr.depth fin (fun b H' s' I' hq => ?_) (m0 + 1) s5 hgen I5.nolimit ⟨_, hfresh, rfl, seg⟩⟩
  exact ⟨.bl b, H', I', rfl, hq⟩
end
end Gx
namespace Gx
open PySem PySem.Spec PyProof.Rows L2 GenW
section
variable {X : Cx} {pins : List (Addr × Obj)} {σ : L2.St} {H : Hp} {s : Shared} {sc : Scope} {x : Str}
theorem cmp_gt {prog : Program} {w : World} {A : Around} {E : Value → Shared → Prop} {i j : Int} {t u : Tok} {Q : Value → Shared → Prop} (h : Q (.bool (decide (i > j))) s) :
    wpAny (model prog w) A (richCompare .Gt (.int i t) (.int j u)) Q E s :=
  CmpOf.ints_gt (P := fun n v => ∃ t, v = .int (if n = 0 then i else j) t) (fun n => if n = 0 then i else j) (fun _ _ h => h) 0 1 _ _ s Q E ⟨t, rfl⟩ ⟨u, rfl⟩ h
def NyMax (W : WT) : Nat → List V → V → Hp → Prop := fun m ys y H => ∃ i : Int, y = .int i ∧ ∃ m', m' < m ∧ W m' (ys ++ [y]) H
theorem MaxRel.first {i : Int} {t : Tok} {ys : List V} (h : MaxRel ys #[]) : MaxRel (ys ++ [.int i]) #[.int i t, .int i t] := by
  obtain ⟨ns, rfl, h | ⟨b, u, e, _⟩⟩ := h
  · rw [h.1]
    exact ⟨[i], rfl, .inr ⟨i, t, rfl, by simp, by simp⟩⟩
  · have := congrArg Array.size e
    simp at this
theorem MaxRel.more {i b : Int} {t u : Tok} {ys : List V} (h : MaxRel ys #[.int b u, .int b u]) : MaxRel (ys ++ [.int i]) (if decide (i > b) = true then #[.int i t, .int i t] else #[.int b u, .int b u]) := by
  obtain ⟨ns, rfl, h | ⟨b', u', e, hb, hm⟩⟩ := h
  · have := congrArg Array.size h.2
    simp at this
  · have e' : b = b' := by
      have := congrArg (fun a : Array Value => a[0]?) e
      simp at this
      exact this.1
    subst e'
    refine ⟨ns ++ [i], by simp, .inr ?_⟩
    by_cases hi : i > b
    · rw [if_pos (decide_eq_true hi)]
      refine ⟨i, t, rfl, by simp, fun z hz => ?_⟩
      rcases List.mem_append.mp hz with q | q
      · exact Int.le_of_lt (Int.lt_of_le_of_lt (hm z q) hi)
      · rw [List.mem_singleton.mp q]; exact Int.le_refl _
    · rw [if_neg (by rw [decide_eq_false hi]; exact Bool.false_ne_true)]
      refine ⟨b, u, rfl, List.mem_append_left _ hb, fun z hz => ?_⟩
      rcases List.mem_append.mp hz with q | q
      · exact hm z q
      · rw [List.mem_singleton.mp q]; omega
theorem MaxRel.last {b : Int} {u : Tok} {ys : List V} {Qm : Int → Hp → Prop} (h : MaxRel ys #[.int b u, .int b u]) (q : NsMax Qm ys H) : Qm b H := by
  obtain ⟨ns, rfl, h | ⟨b', u', e, hb, hm⟩⟩ := h
  · have := congrArg Array.size h.2
    simp at this
  · have e' : b = b' := by
      have := congrArg (fun a : Array Value => a[0]?) e
      simp at this
      exact this.1
    subst e'
    obtain ⟨ms, e1, _, hq⟩ := q
    rw [map_int_inj e1] at hb hm
    exact hq b hb hm
/-- what stands at the consumer's list is what it read -/
theorem held_eq {S : Addr} {Rel : Array Value → Prop} {ps : List (Addr × Obj)} {s₀ : Shared} {acc : Array Value} {c : Nat} (hps : Held (some S) Rel ps) (h0 : ∀ p ∈ ps, s₀.heap.get? p.1 = some p.2) (hS : s₀.heap.get? S = some (lstObj acc c)) :
    ps = [(S, lstObj acc c)] ∧ Rel acc := by
  obtain ⟨acc', c', e, hR⟩ := hps
  subst e
  have q := h0 _ (List.mem_singleton.mpr rfl)
  rw [hS] at q
  injection q with q
  have q1 : (Data.seq acc c : Data) = Data.seq acc' c' := congrArg Obj.data q
  injection q1 with q1 q2
  subst q1 q2
  exact ⟨rfl, hR⟩
theorem max_turns {Z : Cx} {q : List (Addr × Obj)} {W : WT} {Qm : Int → Hp → Prop} {A : Around} {a S : Addr} {g : Nat} {Rr : Result → Shared → Prop} (hh : A.handled = none) (hd : A.depth < recursionLimit) (hSa : S ≠ a) (hSc : S ≠ cStatics)
    (fin : ∀ ps σz Hz s7, Inv Z (q ++ ps) σz Hz s7 → Inv X pins σ Hz s7 ∧ s7.heap.IsGen a g)
    (hin : ∀ (ps : List (Addr × Obj)) σz Hz s7 acc c s8, Inv Z (q ++ ps) σz Hz s7 → ps = [(S, lstObj acc c)] → (∀ b o, b ≠ S → s7.heap.get? b = some o → s8.heap.get? b = some o) → s8.os = s7.os → AllBare s8.gens → Inv X pins σ Hz s8)
    (hdone : ∀ b t H' s', Inv X pins σ H' s' → Qm b H' → Rr (.ok (.ret (.int b t))) s') :
    ∀ (n : Nat) (s : Shared) (acc : Array Value) (c : Nat), (acc = #[] ∨ ∃ b t, acc = #[.int b t, .int b t]) → s.heap.get? S = some (lstObj acc c) → s.heap.IsGen a g → s.heap.NoLimit →
      (∃ gs, s.gens[g]? = some gs ∧ gs.Goes (model X.prog X.w) A.in1.in1 (GRx Z q (some S) MaxRel (NsMax Qm)) (GYx Z q (some S) MaxRel W (NyMax W)) n (.send .none) (s.setGen g .running)) →
      codeAny (model X.prog X.w) A (.builtin "max.loop" ⟨[.ref a, .none, .ref S], []⟩) Rr s := by
  have hname : (toString "max" ++ toString ".loop" : String) = "max.loop" := by decide
  intro n
  induction n using Nat.strongRecOn with
  | ind n ih =>
    intro s acc c hacc hS hg hl ⟨gs, hgs, hgo⟩
    have hgl : g < s.gens.size := (Array.getElem?_eq_some_iff.mp hgs).1
    refine codeAny_builtin F.entry_max_loop ?_; rw [Around.under_plainId F.plain_max_loop _]
    show wpAny _ A.in1 (seqItems? (.ref S) >>= _) _ _ s
    refine wpAny_bind (wpAny_seqItems hS rfl ?_)
    have turn : ∀ (v : Value) (s₁ : Shared) (gs' : GenState) (m : Nat) (ys : List V) (i : Int) (t : Tok) (Hz : Hp) (σz : L2.St) (ps : List (Addr × Obj)) (acc2 : Array Value), g < s₁.gens.size → gs'.bare = true → v = .int i t → m < n + 1 → ps = [(S, lstObj acc c)] → Inv Z (q ++ ps) σz Hz s₁ →
        (∃ m', m' < m ∧ W m' (ys ++ [.int i]) Hz) → MaxRel (ys ++ [.int i]) acc2 → (∃ b t, acc2 = #[.int b t, .int b t]) →
        (∀ s', Woke (some S) (MaxRel (ys ++ [.int i])) s₁ s' → ∀ m', m' < m → W m' (ys ++ [.int i]) Hz → (match (generalizing := false) n with | 0 => False | k + 1 => gs'.Goes (model X.prog X.w) A.in1.in1 (GRx Z q (some S) MaxRel (NsMax Qm)) (GYx Z q (some S) MaxRel W (NyMax W)) k (.send .none) s')) →
        ∀ (s2 : Shared) (c2 : Nat), s2.heap.get? S = some (lstObj acc2 c2) → (∀ b o, b ≠ S → s₁.heap.get? b = some o → s2.heap.get? b = some o) → s2.os = s₁.os → s2.gens = (s₁.setGen g gs').gens →
          codeAny (model X.prog X.w) A (.builtin "max.loop" ⟨[.ref a, .none, .ref S], []⟩) Rr s2 := by
      intro v s₁ gs' m ys i t Hz σz ps acc2 hsz hbare _ hm hps J ⟨m', hm', hw⟩ hR hacc2 hkap s2 c2 hS2 k2 os2 gens2
      cases n with
      | zero => omega
      | succ n =>
        obtain ⟨I1, g1⟩ := fin _ _ _ _ J
        have bare2 : AllBare (s₁.setGen g gs').gens := allBare_setGen I1.bare hbare
        have I2 := hin _ _ _ _ _ _ s2 J hps k2 os2 (by rw [gens2]; exact bare2)
        have size2 : g < s2.gens.size := by
          rw [gens2, setGen_size]; exact hsz
        refine ih n (Nat.lt_succ_self n) s2 acc2 c2 (.inr hacc2) hS2 ?_ I2.nolimit ⟨gs', ?_, ?_⟩
        · obtain ⟨o, nm, qn, ho, r⟩ := g1
          exact ⟨o, nm, qn, k2 a o (Ne.symm hSa) ho, r⟩
        · rw [gens2]; exact setGen_at hsz
        · refine hkap (s2.setGen g .running) ⟨os2, allBare_setGen I2.bare rfl, fun b o hb e => k2 b o (fun z => hb (by rw [z])) e, fun S' z => ?_⟩ m' hm' hw
          cases z
          exact ⟨acc2, c2, hS2, hR⟩
    have nx : ∀ (Q : Option Value → Shared → Prop) (E : Value → Shared → Prop),
        (∀ (v : Value) (s₁ : Shared) (gs' : GenState), gs'.bare = true → g < s₁.gens.size → GYx Z q (some S) MaxRel W (NyMax W) (n - 1) (s.setGen g .running) v s₁ (fun r' s'' => match (generalizing := false) n with
            | 0 => False
            | m + 1 => gs'.Goes (model X.prog X.w) A.in1.in1 (GRx Z q (some S) MaxRel (NsMax Qm)) (GYx Z q (some S) MaxRel W (NyMax W)) m r' s'') → Q (some v) (s₁.setGen g gs')) →
        (∀ s₁, GFx Z q (some S) MaxRel (NsMax Qm) (s.setGen g .running) s₁ → ∀ h', (∀ b o, s₁.heap.get? b = some o → h'.get? b = some o) → Q none { s₁.setGen g .finished with heap := h' }) →
        wpAny (model X.prog X.w) A.in1 (pyNext (.ref a)) Q E s := fun Q E hY hP =>
      wpAny_gsz (n := g + 1) hgl (next_genG (A := A.in1) hh hl hd hg hgs hgo (fun v s₁ gs' hbare hv hsz => hY v s₁ gs' hbare (by
        have q1 : (s₁.setGen g gs').gens.size = s₁.gens.size := setGen_size _ _ _
        have q2 : g + 1 ≤ (s₁.setGen g gs').gens.size := hsz
        omega) hv) (fun s₁ hp h' hk _ => hP s₁ hp h' hk) fun e s₁ he => he.elim)
    rcases hacc with rfl | ⟨b, tb, rfl⟩
    · show wpAny _ A.in1 (tryCatch (pyNext (.ref a)) _ >>= _) _ _ s
      refine wpAny_bind (wpAny_tryCatch (nx _ _ (fun v s₁ gs' hbare hsz hv => ?_) fun s₁ hp h' hk => ?_))
      · obtain ⟨m, ys, y, σz, Hz, ps, hm, rv, hps, h0, J, ⟨i, ey, hw⟩, hkap⟩ := hv
        subst ey
        obtain ⟨t, rfl⟩ := rv
        obtain ⟨eps, hR⟩ := held_eq hps h0 hS
        have hS1 : s₁.heap.get? S = some (lstObj #[] c) := (J.pin (S, lstObj #[] c) (List.mem_append_right _ (List.mem_append_right _ (by rw [eps]; exact List.mem_singleton.mpr rfl)))).1
        show wpAny _ A.in1 (updateSeq S (fun _ => #[.int i t, .int i t]) >>= _) _ _ _
        refine wpAny_bind (wpAny_updateSeq hS1 rfl ?_)
        rw [hname]
        refine wpAny_pure ⟨plainId_quiet F.plain_max_loop _, turn _ s₁ gs' m ys i t Hz σz ps #[.int i t, .int i t] hsz hbare rfl (by omega) eps J hw hR.first ⟨i, t, rfl⟩ hkap _ _ (Heap.get?_update_self _ hS1 rfl) (fun b o hb e => (Heap.get?_update_other _ _ (Ne.symm hb)).trans e) rfl rfl⟩
      · obtain ⟨ys, σz, Hz, ps, hps, h0, J, hq⟩ := hp
        obtain ⟨eps, hR⟩ := held_eq hps h0 hS
        exact (hR.none hq).elim
    · show wpAny _ A.in1 (tryCatch (pyNext (.ref a)) _ >>= _) _ _ s
      refine wpAny_bind (wpAny_tryCatch (nx _ _ (fun v s₁ gs' hbare hsz hv => ?_) fun s₁ hp h' hk => ?_))
      · obtain ⟨m, ys, y, σz, Hz, ps, hm, rv, hps, h0, J, ⟨i, ey, hw⟩, hkap⟩ := hv
        subst ey
        obtain ⟨t, rfl⟩ := rv
        obtain ⟨eps, hR⟩ := held_eq hps h0 hS
        have hS1 : s₁.heap.get? S = some (lstObj #[.int b tb, .int b tb] c) := (J.pin (S, lstObj _ c) (List.mem_append_right _ (List.mem_append_right _ (by rw [eps]; exact List.mem_singleton.mpr rfl)))).1
        have hR2 := hR.more (i := i) (t := t)
        show wpAny _ A.in1 (tryCatch (holding [.int i t, .int i t] (richCompare .Gt (.int i t) (.int b tb) >>= _)) _ >>= _) _ _ _
        refine wpAny_bind (wpAny_tryCatch (wpAny_holding (wpAny_bind (cmp_gt ?_))))
        refine wpAny_bind (wpAny_holding (wpAny_truthy_bool ?_))
        refine wpAny_bind (wpAny_letGo (wpAny_pure ?_))
        cases hb : decide (i > b) with
        | true =>
          rw [if_pos hb] at hR2
          simp only [if_true]
          refine wpAny_bind (wpAny_updateSeq hS1 rfl (wpAny_bind (wpAny_letGo ?_)))
          rw [hname]
          refine wpAny_pure ⟨plainId_quiet F.plain_max_loop _, turn _ s₁ gs' m ys i t Hz σz ps #[.int i t, .int i t] hsz hbare rfl (by omega) eps J hw hR2 ⟨i, t, rfl⟩ hkap _ _ (Heap.get?_update_self _ hS1 rfl) (fun b o hb e => (Heap.get?_update_other _ _ (Ne.symm hb)).trans e) rfl rfl⟩
        | false =>
          rw [if_neg (by rw [hb]; exact Bool.false_ne_true)] at hR2
          simp only [Bool.false_eq_true, if_false]
          refine wpAny_bind (wpAny_letGo ?_)
          rw [hname]
          exact wpAny_pure ⟨plainId_quiet F.plain_max_loop _, turn _ s₁ gs' m ys i t Hz σz ps #[.int b tb, .int b tb] hsz hbare rfl (by omega) eps J hw hR2 ⟨b, tb, rfl⟩ hkap _ c hS1 (fun _ _ _ e => e) rfl rfl⟩
      · obtain ⟨ys, σz, Hz, ps, hps, h0, J, hq⟩ := hp
        obtain ⟨eps, hR⟩ := held_eq hps h0 hS
        have hS1 : s₁.heap.get? S = some (lstObj #[.int b tb, .int b tb] c) := (J.pin (S, lstObj _ c) (List.mem_append_right _ (List.mem_append_right _ (by rw [eps]; exact List.mem_singleton.mpr rfl)))).1
        obtain ⟨I1, g1⟩ := fin _ _ _ _ J
        show wpAny _ A.in1 (updateSeq S (fun _ => #[]) >>= _) _ _ _
        refine wpAny_bind (wpAny_updateSeq (hk _ _ hS1) rfl (wpAny_bind (wpAny_letGo (wpAny_pure ?_))))
        refine hdone b tb Hz _ (hin _ _ _ _ _ _ _ J eps (fun d o hd' e => (Heap.get?_update_other _ _ (Ne.symm hd')).trans (hk d o e)) rfl (allBare_setGen I1.bare rfl)) (hR.last hq)
/-- max(elt for x in iter), whole numbers -/
def tMaxG (P : Addr) (wi : TI) (te : TE) : TE := fun σ H Q => tGen P wi te NyMax (NsMax fun b H => Q (.int b) H) σ H
theorem pe_maxG {elt iter : Expr} {px p pos gpos : Pos} {c P : Addr} {wi : TI} {te : TE} {k : Nat}
    (hr : Room (k + 3) X.A) (hg : Gl X "max") (hm : X.mg "max" = none) (TB : GxR.TabB X.base X.mg c P) (hcode : X.env.code = .ref c) (Sc : GSc sc x) (hi : PI X (.Name x px) iter wi)
    (he : ∀ (A : Around) (code : Value) (s4 : Shared) (H4 : Hp) (fp : List Addr), Room k (A.deeper (gE X sc s4.heap.objs.size code)) → PE (gCx X A sc x code s4 H4 fp) elt te)
    (hs : ∀ v, genFold iter X.env v = pure v)
    (hst : starEach [.GeneratorExp elt [⟨.Name x px, iter, [], 0⟩] sc gpos] X.env = (false, eval (.GeneratorExp elt [⟨.Name x px, iter, [], 0⟩] sc gpos) X.env) :: starEach [] X.env := by rfl) :
    PE X (.Call (.Name "max" p) [.GeneratorExp elt [⟨.Name x px, iter, [], 0⟩] sc gpos] [] pos) (tMaxG P wi te) := by
  have hname : (toString "max" ++ toString ".loop" : String) = "max.loop" := by decide
  refine ⟨fun pins s σ H Q I h => ?_⟩
  have hb : bootBuiltins "max" = some (.builtin "max") := by decide +kernel
  refine wpAny_Call_Name_kw (ld_blt I hg hm hb (PyProof.Rows.callWith_builtin1 ?_ hst (by rfl)))
  rw [hst]
  show wpAny _ _ (spliced ((false, eval (.GeneratorExp elt [⟨.Name x px, iter, [], 0⟩] sc gpos) X.env) :: backTo pos (starEach [] X.env))) _ _ s
  refine Calls.spliced_cons (gx_make (k := k) (Rel := MaxRel) hr TB hcode Sc hi he hs I h fun a s5 hB => Calls.spliced_nil ?_)
  obtain ⟨g, cd, H4, hgen, hfresh, I5, ha, wake⟩ := hB
  refine call_function_tree F.kind_max F.plain_max F.entry_max (F.args_max1 _) ?_
  show wpAny _ X.A.in1 (Builtin.Builtins.bindParams "max" ["key", "default"] 0 ⟨[], []⟩ >>= _) _ _ s5
  refine wpAny_bind (wpAny_of_eq (show Builtin.Builtins.bindParams "max" ["key", "default"] 0 ⟨[], []⟩ = pure [none, none] from rfl) ?_)
  refine wpAny_bind (wpAny_pure (wpAny_bind (wpAny_pyIter_gen hgen ?_)))
  refine wpAny_bind (wpAny_newObj_type ?_)
  rw [hname]
  have hS5 : (s5.heap.push { cls := .type "list", data := .seq #[] }).get? s5.heap.objs.size = some (lstObj #[] 0) := Heap.get?_push_size _ rfl
  have kp5 : ∀ b o, s5.heap.get? b = some o → (s5.heap.push { cls := .type "list", data := .seq #[] }).get? b = some o := fun b o e => Heap.get?_push_of_some _ e
  have I6 : Inv X pins σ H4 { s5 with heap := s5.heap.push { cls := .type "list", data := .seq #[] } } := regens I5 rfl kp5 I5.bare
  obtain ⟨Z, q, W, m0, fin, seg⟩ := wake X.A.in1.in1 (some s5.heap.objs.size) (({ s5 with heap := s5.heap.push { cls := .type "list", data := .seq #[] } } : Shared).setGen g .running) ((hr.mono (by omega : k + 1 + 1 + 1 ≤ k + 3)).in1.in1) I.ok.frames
    (fun S z => by cases z; exact ⟨Nat.le_refl _, #[], 0, hS5, [], rfl, .inl ⟨rfl, rfl⟩⟩) kp5 rfl (allBare_setGen I6.bare rfl)
  have hcl : cStatics < s5.heap.objs.size := let ⟨_, hn, _⟩ := I5.nolimit; hn.lt
  refine wpAny_pure ⟨plainId_quiet F.plain_max_loop _, max_turns (Qm := fun b H => Q (.int b) H) hr.hd hr.depth (Nat.ne_of_gt ha) (Nat.ne_of_gt hcl) fin (fun ps σz Hz s7 acc c' s8 J eps k8 o8 b8 => ?_) (fun b t H' s' I' hq => ?_) (m0 + 1) _ #[] 0 (.inl rfl) hS5 (hgen.keeps kp5) I6.nolimit ⟨_, hfresh, rfl, seg⟩⟩
  · subst eps
    obtain ⟨h1, h2, h3, h4, _⟩ := J.pin (s5.heap.objs.size, lstObj acc c') (List.mem_append_right _ (List.mem_append_right _ (List.mem_singleton.mpr rfl)))
    obtain ⟨I7, _⟩ := fin _ _ _ _ J
    have ni : ∀ b : Addr, b ∉ [s5.heap.objs.size] → b ≠ s5.heap.objs.size := fun b hb e => hb (by rw [e]; exact List.mem_singleton.mpr rfl)
    have nS : ∀ b u, Hz b = some u → b ≠ s5.heap.objs.size := fun b u e z => by rw [z, h2] at e; cases e
    have kp8 : ∀ b o, b ∉ [s5.heap.objs.size] → s7.heap.get? b = some o → s8.heap.get? b = some o := fun b o hb e => k8 b o (ni b hb) e
    refine I7.call' (ch := [s5.heap.objs.size]) o8 ⟨fun b o e _ _ hx => kp8 b o hx e, fun b o e _ _ hx => ⟨o.slots, kp8 b o hx e⟩, fun _ _ _ n _ => n, fun b o e hx => ⟨o, kp8 b o hx e⟩,
      fun _ _ e => e, fun _ _ _ e => e, fun _ _ e => ⟨#[], by rw [e]; simp⟩⟩ (fun b u e => ?_) b8 fun b hb => ?_
    · refine (I7.hok b u e).stay (fun d v hd z => k8 d v ?_ z) (fun _ z => z) fun _ _ z => z
      rcases hd with z | z
      · rw [z]; exact nS b u e
      · exact nS d _ z
    · rw [List.mem_singleton.mp hb]
      obtain ⟨_, a2, _, a4, a5, a6⟩ := I5.fpOk (Nat.le_refl _) h2
      exact ⟨a4, a2, a5, a6⟩
  · exact ⟨.int b, H', I', ⟨t, rfl⟩, hq⟩
end
end Gx
namespace TG
open PySem L2
/-- the built-ins that the text calls are the built-ins still -/
structure Txt (mg : Str → Option Value) : Prop where
  isin : mg "isinstance" = none
  len : mg "len" = none
  range : mg "range" = none
  max : mg "max" = none
  min : mg "min" = none
  all : mg "all" = none
  str : mg "str" = none
  int : mg "int" = none
  bool : mg "bool" = none
  list : mg "list" = none
  tuple : mg "tuple" = none
  enum : mg "enumerate" = none
  ord : mg "ord" = none
def BoxAt (H : Hp) (b l : Addr) : Prop := ∃ (ns : List Int) (st : Int), H b = some (.lst [.ref l, .int st]) ∧ H l = some (.lst (ns.map V.int)) ∧ ns.length ≤ 63
/-- all but the box stays -/
def KB (b l : Addr) (H H' : Hp) : Prop := ∀ c o, H c = some o → c ≠ b → c ≠ l → H' c = some o
theorem KB.refl {b l : Addr} {H : Hp} : KB b l H H := fun _ _ h _ _ => h
theorem KB.trans {b l : Addr} {H H1 H2 : Hp} (x : KB b l H H1) (y : KB b l H1 H2) : KB b l H H2 := fun c o h n m => y c o (x c o h n m) n m
theorem box_ne {H : Hp} {b l : Addr} (x : BoxAt H b l) : b ≠ l := by
  obtain ⟨ns, st, h1, h2, _⟩ := x
  refine ne_of h1 h2 fun z => ?_
  injection z with z
  cases ns with
  | nil => cases z
  | cons n ns =>
    rw [List.map_cons] at z
    injection z with z _
    cases z
theorem nz {i : Int} (h : i ≠ 0) : i ≠ 0 := h
theorem at0 {α : Type} {v : α} {xs : List α} : atI (v :: xs) 0 = some v := atI_nat (j := 0) rfl
theorem ix0 {n : Nat} : ixN (n + 1) 0 = some 0 := by
  unfold ixN
  rw [if_pos (by decide), if_pos (by omega)]
  rfl
theorem small0 : ([] : List V).length ≤ sizeLine := Nat.zero_le _
theorem dp_ints {K : PySem.W.Frag} {H : Hp} : ∀ ns : List Int, DpAll K H (ns.map V.int) (ns.map PyData.int)
  | [] => .nil
  | n :: ns => .cons (.int n) (dp_ints ns)
theorem canAll_ints : ∀ ns : List Int, PyData.canLayAll0 (ns.map PyData.int) = true
  | [] => rfl
  | _ :: r => by simp [PyData.canLayAll0, PyData.canLay0, canAll_ints r]
theorem depthAll_ints : ∀ ns : List Int, PyData.depthAll (ns.map PyData.int) = 0
  | [] => rfl
  | _ :: r => by simp [PyData.depthAll, PyData.depth, depthAll_ints r]
theorem shaped_of_ints (ns : List Int) : SeqAt.shaped (.list (ns.map PyData.int)) = true := by
  simp [SeqAt.shaped, PyData.canLay0, PyData.depth, canAll_ints, depthAll_ints]
def spTake : Sp := fun vs H Q _ => ∃ (b l : Addr) (many : Int), vs = [.ref b, .int many] ∧ BoxAt H b l ∧ 0 < many ∧ many < 1073741824 ∧
  ∀ (r : Int) (H' : Hp), 0 ≤ r → r < many → BoxAt H' b l → KB b l H H' → Q (.int r) H'
section
variable {P : Program} {w : World} {K : PySem.W.Frag} {mg : Str → Option Value} {base : Heap}
theorem sc_take : FnScope ["_law_box", "_law_many", "_law_number"] ["_law_box", "_law_many"] (defScope s_take) := ⟨rfl, rfl, rfl, by decide +kernel, rfl, by decide +kernel, by decide +kernel⟩
theorem ok_take {f : Addr} {fd : FuncData} (F : Fun K "_law_take" "_law_take" s_take f fd) : FnOk P w K mg base CX0 1 f fd ["_law_box", "_law_many"] spTake := by
  refine F.ok sc_take (fun vs H Q E h => ?_) (fun cdv A outer s H vs Q E hr h => ?_)
  · obtain ⟨b, l, many, rfl, _⟩ := h
    rfl
  · obtain ⟨b, l, many, rfl, hB, m0, m1, k⟩ := h
    have nd := sc_take.nd
    have hu := hr.units
    refine ⟨_, pss_cons (ps_if (pt_cmpR (op_eqD hu) (pe_ix ix_list (pv 0) pe_int (fun _ _ => rfl)) (pe_lst pa_nil) (nomark _))
        (pss_cons (ps_asg (pe_op op_modN (pe_op op_mul (pe_ix ix_list (pv 0) pe_int (fun _ _ => rfl)) pe_int) pe_int) (pg_sub (pv 0) pe_int set_list))
          (pss_one (ps_ret (pe_op op_modN (pe_op op_fdivN (pe_ix ix_list (pv 0) pe_int (fun _ _ => rfl)) pe_int) (pv 1))))) pss_nil)
      (pss_cons (ps_set (i := 2) nd rfl (.inl rfl) (pe_ix ix_list (pe_ix ix_list (pv 0) pe_int (fun _ _ => rfl)) pe_int (fun _ _ => rfl)))
      (pss_cons (ps_asg (pe_op op_fdivN (pv 2) (pv 1)) (pg_sub (pe_ix ix_list (pv 0) pe_int (fun _ _ => rfl)) pe_int set_list))
      (pss_cons (ps_if (PW.pt (pw_or (pt_cmpR op_eq (pe_ix ix_list (pe_ix ix_list (pv 0) pe_int (fun _ _ => rfl)) pe_int (fun _ _ => rfl)) pe_int (nomark _)) (pw_or1 (pt_cmpR op_eq (pe_ix ix_list (pe_ix ix_list (pv 0) pe_int (fun _ _ => rfl)) pe_int (fun _ _ => rfl)) (pe_un un_neg pe_int) (nomark _)))))
          (pss_one (ps_expr (pe_bm PySem.F.plainAttrs_list PySem.F.slot_list_pop PySem.F.type_list_pop mt_popAt (pe_ix ix_list (pv 0) pe_int (fun _ _ => rfl)) (pa_cons pe_int pa_nil)))) pss_nil)
      (pss_one (ps_ret (pe_op op_modN (pv 2) (pv 1))))))), ?_⟩
    obtain ⟨ns, st, h1, h2, h3⟩ := id hB
    have nbl := box_ne hB
    have len2 : ∀ o, (upd H b o) l = some (.lst (ns.map V.int)) := fun o => by rw [upd_ne nbl.symm]; exact h2
    -- _law_box[0] == []
    refine ⟨_, rfl, b, _, 0, .ref l, rfl, rfl, SqL.of h1, rfl, small0, fun p np => ?_⟩
    have npb : b ≠ p := ne_of_none h1 np
    have npl : l ≠ p := ne_of_none h2 np
    have g1 : (upd H p (.lst [])) b = some (.lst [.ref l, .int st]) := by rw [upd_ne npb]; exact h1
    have g2 : (upd H p (.lst [])) l = some (.lst (ns.map V.int)) := by rw [upd_ne npl]; exact h2
    have kp : KB b l H (upd H p (.lst [])) := fun c o e _ _ => by rw [upd_ne (ne_of_none e np)]; exact e
    refine ⟨.list (ns.map PyData.int), .list [], .lst (SqL.of g2) (dp_ints ns), .lst (SqL.of upd_same) .nil, shaped_of_ints ns, rfl, _, rfl, ?_⟩
    cases ns with
    | nil =>
      refine iteT ?_
      refine ⟨_, rfl, b, _, 1, .int st, rfl, rfl, SqL.of g1, rfl, st, 48271, rfl, rfl, .inr (by decide), _, _, rfl, rfl, nz (by decide), _, rfl, b, _, 1, 1, rfl, rfl, g1, rfl, ?_⟩
      refine ⟨_, rfl, b, _, 1, _, rfl, rfl, SqL.of upd_same, rfl, _, _, rfl, rfl, ⟨by decide, by decide⟩, _, rfl, _, _, rfl, rfl, nz (by omega), ?_⟩
      refine k _ _ (Int.fmod_nonneg_of_pos _ m0) (Int.fmod_lt_of_pos _ m0) ⟨[], _, upd_same, by rw [upd_ne nbl.symm]; exact g2, h3⟩ fun c o e hc hl => ?_
      rw [upd_ne hc]
      exact kp c o e hc hl
    | cons n ns =>
      refine iteF ?_
      refine ⟨_, rfl, b, _, 0, .ref l, rfl, rfl, SqL.of g1, rfl, l, _, 0, .int n, rfl, rfl, SqL.of g2, at0, ?_⟩
      refine ⟨_, rfl, _, rfl, n, many, rfl, rfl, ⟨by omega, by omega⟩, _, rfl, b, _, 0, .ref l, rfl, rfl, SqL.of g1, rfl, l, _, 0, 0, rfl, rfl, g2, ix0, ?_⟩
      have j1 : ∀ o, (upd (upd H p (.lst [])) l o) b = some (.lst [.ref l, .int st]) := fun o => by rw [upd_ne nbl]; exact g1
      have kl : ∀ o, KB b l H (upd (upd H p (.lst [])) l o) := fun o c u e hc hl => by rw [upd_ne hl]; exact kp c u e hc hl
      have fin : ∀ ms : List Int, ms.length ≤ 63 → Q (.int (n.fmod many)) (upd (upd H p (.lst [])) l (.lst (ms.map V.int))) := fun ms hm =>
        k _ _ (Int.fmod_nonneg_of_pos _ m0) (Int.fmod_lt_of_pos _ m0) ⟨ms, st, j1 _, upd_same, hm⟩ (kl _)
      have e0 : (List.map V.int (n :: ns)).set 0 (V.int (n.fdiv many)) = List.map V.int (n.fdiv many :: ns) := rfl
      rw [e0]
      -- == 0 or == -1
      refine ⟨_, rfl, b, _, 0, .ref l, rfl, rfl, SqL.of (j1 _), rfl, l, _, 0, .int (n.fdiv many), rfl, rfl, SqL.of upd_same, at0, rfl, _, rfl, ?_⟩
      have done : ∀ H', (∃ ms : List Int, ms.length ≤ 63 ∧ H' = upd (upd H p (.lst [])) l (.lst (ms.map V.int))) → ∃ v, ([some (V.ref b), some (V.int many), some (V.int n)] : L2.St)[2]? = some (some v) ∧ ∃ v_1, ([some (V.ref b), some (V.int many), some (V.int n)] : L2.St)[1]? = some (some v_1) ∧ ∃ i j, v = V.int i ∧ v_1 = V.int j ∧ j ≠ 0 ∧ Q (V.int (i.fmod j)) H' := fun H' ⟨ms, hm, e⟩ => by
        subst e
        exact ⟨_, rfl, _, rfl, n, many, rfl, rfl, nz (by omega), fin ms hm⟩
      have pop : ∀ Z : VK, (∀ y H', H' = upd (upd H p (.lst [])) l (.lst (ns.map V.int)) → Z y H') → rPopAt (.ref l) [.int 0] (upd (upd H p (.lst [])) l (.lst (List.map V.int (n.fdiv many :: ns)))) Z := fun Z hZ =>
        ⟨l, _, 0, 0, _, rfl, rfl, upd_same, by decide, by decide, by simp [seqIndex?], rfl, hZ _ _ (by rw [upd_upd]; rfl)⟩
      have h3' : ns.length ≤ 63 := by simp at h3; omega
      by_cases hz : n.fdiv many = 0
      · rw [decide_eq_true (show V.int (n.fdiv many) = V.int 0 by rw [hz])]
        refine iteT (iteT ⟨_, rfl, b, _, 0, .ref l, rfl, rfl, SqL.of (j1 _), rfl, .inl ⟨rfl, _, SqL.of upd_same⟩, pop _ fun y H' e => done H' ⟨ns, h3', e⟩⟩)
      · rw [decide_eq_false (show ¬ V.int (n.fdiv many) = V.int 0 from fun z => hz (by injection z))]
        refine iteF ⟨_, rfl, b, _, 0, .ref l, rfl, rfl, SqL.of (j1 _), rfl, l, _, 0, .int (n.fdiv many), rfl, rfl, SqL.of upd_same, at0, 1, rfl, rfl, _, rfl, ?_⟩
        refine ite2 (fun _ => ⟨_, rfl, b, _, 0, .ref l, rfl, rfl, SqL.of (j1 _), rfl, .inl ⟨rfl, _, SqL.of upd_same⟩, pop _ fun y H' e => done H' ⟨ns, h3', e⟩⟩) fun _ => ?_
        exact done _ ⟨n.fdiv many :: ns, h3, rfl⟩
end
end TG
namespace TG
open PySem L2
section
variable {P : Program} {w : World} {K : PySem.W.Frag} {mg : Str → Option Value} {base : Heap}
def spBegun (K : PySem.W.Frag) : Sp := fun vs H Q _ => ∃ (a : Addr) (ns : List Int), vs = [.ref a] ∧ SqL K H a (ns.map V.int) ∧ ns.length ≤ 63 ∧
  ∀ (b l : Addr) (H' : Hp), BoxAt H' b l → Same H H' → H b = none → H l = none → Q (.ref b) H'
theorem sc_begun : FnScope ["_law_script", "_law_stirred", "_law_cell_here"] ["_law_script"] (defScope s_begun) := ⟨rfl, rfl, rfl, by decide +kernel, rfl, by decide +kernel, by decide +kernel⟩
theorem ok_begun {f : Addr} {fd : FuncData} (T : Txt mg) (F : Fun K "_law_begun" "_law_begun" s_begun f fd) : FnOk P w K mg base CX0 1 f fd ["_law_script"] (spBegun K) := by
  refine F.ok sc_begun (fun vs H Q E h => ?_) (fun cdv A outer s H vs Q E hr h => ?_)
  · obtain ⟨a, ns, rfl, _⟩ := h
    rfl
  · obtain ⟨a, ns, rfl, hS, hl, k⟩ := h
    have nd := sc_begun.nd
    refine ⟨_, pss_cons (ps_set (i := 1) nd rfl (.inl rfl) pe_int) (pss_cons (ps_for PassesOwn.never rfl (pi_list (pv 0)) (pg_name (i := 2) nd rfl (.inl rfl))
        (pss_one (ps_set (i := 1) nd rfl (.inl rfl) (pe_op op_modN (pe_op op_add (pe_op op_add (pe_op op_mul (pv 1) pe_int) (pe_op op_mul (pv 2) pe_int)) pe_int) pe_int))))
      (pss_one (ps_ret (pe_lst (pa_cons (pe_callTy call_list_of (by rfl) T.list (by decide +kernel) (pa_cons (pv 0) pa_nil))
        (pa_cons (pe_op op_mul (pv 1) (pe_callTy call_int1 (by rfl) T.int (by decide +kernel) (pa_cons (pe_cmpR op_gt (pe_callB call_len_seq (by rfl) T.len PySem.boot_len (pa_cons (pv 0) pa_nil)) pe_int (nomark _)) pa_nil))) pa_nil)))))), ?_⟩
    refine ⟨_, rfl, a, rfl, ⟨_, hS⟩, for_list (xs := ns.map V.int) (fun _ σ H1 => H1 = H ∧ ∃ st c, σ = [some (.ref a), some (.int st), c]) ⟨rfl, 0, _, rfl⟩ (fun i σ H1 _ p => by rw [p.1]; exact hS) ?_ ?_⟩
    · rintro i x σ H1 hx ⟨rfl, st, c, rfl⟩
      obtain ⟨n, rfl⟩ : ∃ n, x = V.int n := by
        rw [List.getElem?_map] at hx
        cases e : ns[i]? with
        | none => rw [e] at hx; cases hx
        | some n => rw [e] at hx; cases hx; exact ⟨n, rfl⟩
      exact ⟨_, rfl, st, 48271, rfl, rfl, .inr (by decide), _, rfl, n, 69621, rfl, rfl, .inr (by decide), _, _, rfl, rfl, _, 11, rfl, rfl, _, 2147483647, rfl, rfl, nz (by decide), rfl, _, _, rfl⟩
    · rintro σ H1 ⟨rfl, st, c, rfl⟩
      refine ⟨_, rfl, a, _, rfl, .inl hS, fun l nl => ?_⟩
      have hS2 : SqL K (upd H1 l (.lst (ns.map V.int))) a (ns.map V.int) := by
        rcases hS with (z | ⟨o, z⟩) | z
        · exact .inl (.inl (by rw [upd_ne (ne_of_none z nl)]; exact z))
        · exact .inl (.inr ⟨o, by rw [upd_ne (ne_of_none z nl)]; exact z⟩)
        · exact .inr z
      refine ⟨_, rfl, _, rfl, a, _, rfl, .inl hS2, _, 2, rfl, rfl, .inr ⟨_, rfl, st, _, rfl, rfl, .inr (by split <;> decide), (by show 2 ≤ sizeLine; decide), fun b nb => ?_⟩⟩
      have nb1 : H1 b = none := by
        by_cases e : b = l
        · rw [e, upd_same] at nb; cases nb
        · rw [upd_ne e] at nb; exact nb
      have nlb : l ≠ b := fun z => by rw [← z, upd_same] at nb; cases nb
      refine k b l _ ⟨ns, _, upd_same, by rw [upd_ne nlb, upd_same], hl⟩ (fun c o e => ?_) nb1 nl
      rw [upd_ne (ne_of_none e nb1), upd_ne (ne_of_none e nl)]
      exact e
theorem ty_list {H : Hp} {a : Addr} {xs : List V} (h : SqL K H a xs) : TyX K H (.ref a) (.type "list") := by
  rcases h with (z | ⟨o, z⟩) | ⟨o, its, n, z, c, _⟩
  · exact .base (.lst z)
  · exact .base (.frz z)
  · exact .kList z c
theorem ty_tup {H : Hp} {a : Addr} {xs : List V} (h : SqT K H a xs) : TyX K H (.ref a) (.type "tuple") := by
  rcases h with (z | ⟨o, z⟩) | ⟨o, its, n, z, c, _⟩
  · exact .base (.tup z)
  · exact .fTuple z
  · exact .kTuple z c
end
end TG
namespace Gx
open PySem PySem.Spec PyProof.Rows L2 GenW
section
variable {J : It} {n : Nat} {G : Hp → Prop} {Y : Nat → Hp → V → Hp → Prop}
/-- all over a walk whose i-th element is f i -/
theorem all_by (w : Walk J n G Y) {te : TE} {Q : VK} {H2 : Hp} (f : Nat → Bool) (Pv : Nat → Hp → Prop) (h0 : Pv 0 H2) (hG : ∀ i H, i ≤ n → Pv i H → G H)
    (hs : ∀ i v H H', i < n → Pv i H → Y i H v H' → ∀ Z : VK, (∀ H3, Pv (i + 1) H3 → Z (.bl (f i)) H3) → te [some v] H' Z)
    (hT : ∀ H, Pv n H → (∀ i, i < n → f i = true) → Q (.bl true) H) (hF : ∀ i H, i < n → f i = false → Pv (i + 1) H → Q (.bl false) H) :
    ∃ W : WT, (∃ m, W m [] H2) ∧ ∀ m ys H, W m ys H → (J.stop ys.length H ∧ (fun (_ : List V) H => Q (.bl true) H) ys H) ∨
      (J.go ys.length H ∧ ∀ v H', J.yld ys.length H v H' → te [some v] H' (NyAll (fun b H => Q (.bl b) H) W m ys)) := by
  refine ⟨fun m ys H => m = n - ys.length ∧ ys.length ≤ n ∧ Pv ys.length H ∧ ∀ i, i < ys.length → f i = true, ⟨n, by simp, Nat.zero_le _, h0, fun i hi => absurd hi (Nat.not_lt_zero _)⟩, ?_⟩
  rintro m ys H ⟨rfl, hl, hp, ht⟩
  have q := hG _ H hl hp
  by_cases hlt : ys.length < n
  · refine .inr ⟨w.goes _ H hlt q, fun v H' y => hs _ v H H' hlt hp (w.yields _ H v H' hlt q y) _ fun H3 p3 => ⟨f ys.length, rfl, ?_⟩⟩
    cases hf : f ys.length with
    | true =>
      refine iteT ⟨n - (ys.length + 1), by omega, by rw [List.length_append, List.length_singleton], by rw [List.length_append, List.length_singleton]; exact hlt, by rw [List.length_append, List.length_singleton]; exact p3, fun i hi => ?_⟩
      rw [List.length_append, List.length_singleton] at hi
      by_cases e : i = ys.length
      · rw [e]; exact hf
      · exact ht i (by omega)
    | false => exact iteF (hF _ H3 hlt hf p3)
  · have e : ys.length = n := by omega
    exact .inl ⟨by rw [e]; exact w.stops H q, hT H (e ▸ hp) fun i hi => ht i (by omega)⟩
/-- max over a walk whose i-th element is g i -/
theorem max_by (w : Walk J n G Y) {te : TE} {Qm : Int → Hp → Prop} {H2 : Hp} (g : Nat → Int) (hn : 0 < n) (Pv : Nat → Hp → Prop) (h0 : Pv 0 H2) (hG : ∀ i H, i ≤ n → Pv i H → G H)
    (hs : ∀ i v H H', i < n → Pv i H → Y i H v H' → ∀ Z : VK, (∀ H3, Pv (i + 1) H3 → Z (.int (g i)) H3) → te [some v] H' Z)
    (hd : ∀ b H, Pv n H → (∃ i, i < n ∧ g i = b) → (∀ i, i < n → g i ≤ b) → Qm b H) :
    ∃ W : WT, (∃ m, W m [] H2) ∧ ∀ m ys H, W m ys H → (J.stop ys.length H ∧ NsMax Qm ys H) ∨
      (J.go ys.length H ∧ ∀ v H', J.yld ys.length H v H' → te [some v] H' (NyMax W m ys)) := by
  refine ⟨fun m ys H => m = n - ys.length ∧ ys.length ≤ n ∧ Pv ys.length H ∧ ys = ((List.range ys.length).map g).map V.int, ⟨n, by simp, Nat.zero_le _, h0, rfl⟩, ?_⟩
  rintro m ys H ⟨rfl, hl, hp, ht⟩
  have q := hG _ H hl hp
  by_cases hlt : ys.length < n
  · refine .inr ⟨w.goes _ H hlt q, fun v H' y => hs _ v H H' hlt hp (w.yields _ H v H' hlt q y) _ fun H3 p3 => ⟨g ys.length, rfl, n - (ys.length + 1), by omega, by rw [List.length_append, List.length_singleton], by rw [List.length_append, List.length_singleton]; exact hlt, by rw [List.length_append, List.length_singleton]; exact p3, ?_⟩⟩
    rw [List.length_append, List.length_singleton, List.range_succ, List.map_append, List.map_append, ← ht]
    rfl
  · have e : ys.length = n := by omega
    refine .inl ⟨by rw [e]; exact w.stops H q, (List.range ys.length).map g, ht, fun z => ?_, fun b hb hm => hd b H (e ▸ hp) ?_ fun i hi => hm _ (List.mem_map.mpr ⟨i, List.mem_range.mpr (by omega), rfl⟩)⟩
    · have := congrArg List.length z
      rw [List.length_map, List.length_range, List.length_nil] at this
      omega
    · obtain ⟨i, hi, e2⟩ := List.mem_map.mp hb
      exact ⟨i, by have := List.mem_range.mp hi; omega, e2⟩
end
def Tabs (cs : List (Addr × Addr)) (H : Hp) : Prop := ∀ p ∈ cs, GxR.TabG H p.2
theorem tab_ext {P : Addr} {H H' : Hp} (t : GxR.TabG H P) (x : GxR.Tabbed P H H') : LamX.ExtN H H' := fun b o e n => by
  by_cases hb : b = P
  · obtain ⟨ps, h1, _⟩ := t
    rw [hb, h1] at e
    cases e
    exact absurd rfl (n ps)
  · rw [x.2 b hb]; exact e
theorem tabs_tab {cs : List (Addr × Addr)} {P : Addr} {H H' : Hp} (t : Tabs cs H) (x : GxR.Tabbed P H H') : Tabs cs H' := fun p hp => by
  by_cases hb : p.2 = P
  · rw [hb]; exact x.1
  · obtain ⟨ps, h1, h2⟩ := t p hp
    exact ⟨ps, by rw [x.2 _ hb]; exact h1, h2⟩
/-- all but tables stays, the tables are tables -/
structure Ex (cs : List (Addr × Addr)) (H H' : Hp) : Prop where
  ext : LamX.ExtN H H'
  tab : Tabs cs H'
  old : ∀ b, H' b = none → H b = none
  oth : ∀ b o, H b = some o → (∀ p ∈ cs, p.2 ≠ b) → H' b = some o
theorem Ex.refl {cs : List (Addr × Addr)} {H : Hp} (t : Tabs cs H) : Ex cs H H := ⟨LamX.ExtN.refl H, t, fun _ h => h, fun _ _ e _ => e⟩
theorem Ex.trans {cs : List (Addr × Addr)} {H H1 H2 : Hp} (a : Ex cs H H1) (b : Ex cs H1 H2) : Ex cs H H2 := ⟨a.ext.trans b.ext, b.tab, fun c h => a.old c (b.old c h), fun c o e m => b.oth c o (a.oth c o e m) m⟩
theorem Ex.tabbed {cs : List (Addr × Addr)} {q : Addr × Addr} {H H' : Hp} (t : Tabs cs H) (m : q ∈ cs) (x : GxR.Tabbed q.2 H H') : Ex cs H H' := ⟨tab_ext (t q m) x, tabs_tab t x, fun b h => by
  by_cases hb : b = q.2
  · obtain ⟨ps, h1, _⟩ := x.1
    rw [hb, h1] at h
    cases h
  · rw [x.2 b hb] at h; exact h, fun b o e n => by
  rw [x.2 b (fun z => n q m z.symm)]
  exact e⟩
theorem upd_none {H : Hp} {a b : Addr} {o : HO} (h : upd H a o b = none) : H b = none ∧ b ≠ a := by
  by_cases hb : b = a
  · rw [hb, upd_same] at h; cases h
  · rw [upd_ne hb] at h; exact ⟨h, hb⟩
theorem Ex.laid {cs : List (Addr × Addr)} {H : Hp} {a : Addr} {o : HO} (t : Tabs cs H) (n : H a = none) : Ex cs H (upd H a o) :=
  ⟨fun b u e _ => by rw [upd_ne (ne_of_none e n)]; exact e, fun p hp => by
    obtain ⟨ps, h1, h2⟩ := t p hp
    exact ⟨ps, by rw [upd_ne (ne_of_none h1 n)]; exact h1, h2⟩, fun b h => (upd_none h).1, fun b u e _ => by
    rw [upd_ne (ne_of_none e n)]
    exact e⟩
/-- a new object, written again -/
theorem ex_new {cs : List (Addr × Addr)} {H H' : Hp} {D : Addr} {o : HO} (t : Tabs cs H) (e : Ex cs H H') (n : H D = none) : Ex cs H (upd H' D o) :=
  ⟨fun b u h m => by rw [upd_ne (ne_of_none h n)]; exact e.ext b u h m, fun p hp => by
    obtain ⟨ps, h1, _⟩ := t p hp
    obtain ⟨ps', h3, h4⟩ := e.tab p hp
    exact ⟨ps', by rw [upd_ne (ne_of_none h1 n)]; exact h3, h4⟩, fun b h => e.old b (upd_none h).1, fun b u h m => by
    rw [upd_ne (ne_of_none h n)]
    exact e.oth b u h m⟩
theorem Ex.lst {cs : List (Addr × Addr)} {H H' : Hp} {a : Addr} {xs : List V} (e : Ex cs H H') (h : H a = some (.lst xs)) : H' a = some (.lst xs) := e.ext _ _ h fun ps q => by cases q
theorem Ex.tup {cs : List (Addr × Addr)} {H H' : Hp} {a : Addr} {xs : List V} (e : Ex cs H H') (h : H a = some (.tup xs)) : H' a = some (.tup xs) := e.ext _ _ h fun ps q => by cases q
theorem Ex.sqL {cs : List (Addr × Addr)} {K : PySem.W.Frag} {H H' : Hp} {a : Addr} {xs : List V} (e : Ex cs H H') (h : SqL K H a xs) : SqL K H' a xs := by
  rcases h with (z | ⟨o, z⟩) | z
  · exact .inl (.inl (e.ext _ _ z fun ps q => by cases q))
  · exact .inl (.inr ⟨o, e.ext _ _ z fun ps q => by cases q⟩)
  · exact .inr z
theorem Ex.sqT {cs : List (Addr × Addr)} {K : PySem.W.Frag} {H H' : Hp} {a : Addr} {xs : List V} (e : Ex cs H H') (h : SqT K H a xs) : SqT K H' a xs := by
  rcases h with (z | ⟨o, z⟩) | z
  · exact .inl (.inl (e.ext _ _ z fun ps q => by cases q))
  · exact .inl (.inr ⟨o, e.ext _ _ z fun ps q => by cases q⟩)
  · exact .inr z
/-- a def whose code object is known -/
theorem fun_okT {P : Program} {w : World} {K : PySem.W.Frag} {mg : Str → Option Value} {base : Heap} {x qual : Str} {st : Stmt} {f c : Addr} {fd : FuncData} {N ps : List Str} {k : Nat} {sp : Sp} (F : Fun K x qual st f fd) (hc : fd.code = .ref c) (S : FnScope N ps (defScope st)) (len : ∀ vs H Q E, sp vs H Q E → vs.length = ps.length)
    (hbody : ∀ (A : Around) (outer : List Env) (s : Shared) (H : Hp) (vs : List V) (Q : VK) (E : XK), Room k (A.deeper (envOfC qual (defScope st) s.heap.objs.size f (.ref c))) → sp vs H Q E →
      ∃ t, PSs (cxOf CX0 P w K mg base N qual (defScope st) f (.ref c) A outer s H E).nox (defBody st) t ∧ t { nx := fun _ H' => Q .non H', rt := Q } (start N vs) H) : FnOk P w K mg base CX0 (k + 1) f fd ps sp := by
  obtain ⟨oc, od, kV, doc, pm, an, cdv, ct, osl, rfl, lk, hcd⟩ := F.ex
  have e : cdv = .ref c := hc
  subst e
  refine fn_of lk hcd S len fun A outer s H vs Q E hr hsp => ?_
  obtain ⟨t, h, q⟩ := hbody A outer s H vs Q E hr hsp
  exact ⟨t, h.nox, q⟩
end Gx
namespace TG
open PySem L2 Gx
structure CellOk (z : Str) : Prop where
  len : z.length ≤ 10
  sg : ∀ c ∈ z.cps.toList, SgOk c
structure RowOk (r : List Str) : Prop where
  pos : 1 ≤ r.length
  len : r.length ≤ 6
  cells : ∀ z ∈ r, CellOk z
abbrev sV (r : List Str) : List V := r.map V.str
theorem line10 {n : Nat} (h : n ≤ 1000) : n ≤ sizeLine := Nat.le_trans h (by decide)
theorem dT {c : Prop} [Decidable c] (h : c) : V.bl (decide c) = V.bl true := by rw [decide_eq_true h]
theorem dF {c : Prop} [Decidable c] (h : ¬ c) : V.bl (decide c) = V.bl false := by rw [decide_eq_false h]
theorem qT {c : Prop} [Decidable c] {Q : VK} {H : Hp} (h : c) (k : Q (.bl true) H) : Q (.bl (decide c)) H := by rw [decide_eq_true h]; exact k
theorem qN {c : Prop} [Decidable c] {Q : VK} {H : Hp} (h : ¬ c) (k : Q (.bl true) H) : Q (.bl (!decide c)) H := by rw [decide_eq_false h]; exact k
structure Consts (mg : Str → Option Value) : Prop where
  blank : ∃ t, mg "BLANK" = some (.int 32 t)
  tilde : ∃ t, mg "TILDE" = some (.int 126 t)
  percent : ∃ t, mg "PERCENT" = some (.int 37 t)
  rows : ∃ t, mg "MOST_ROWS" = some (.int 30 t)
  cells : ∃ t, mg "MOST_CELLS" = some (.int 6 t)
  signs : ∃ t, mg "MOST_SIGNS" = some (.int 10 t)
  gap : ∃ t, mg "MOST_GAP" = some (.int 4 t)
  least : ∃ t, mg "MOST_LEAST" = some (.int 12 t)
section
variable {P : Program} {w : World} {K : PySem.W.Frag} {mg : Str → Option Value} {base : Heap}
def spWhole : Sp := fun vs H Q _ => ∃ (i lo hi : Int), vs = [.int i, .int lo, .int hi] ∧ lo ≤ i ∧ i ≤ hi ∧ Q (.bl true) H
theorem sc_whole : FnScope ["value", "low", "high"] ["value", "low", "high"] (defScope s_is_whole) := ⟨rfl, rfl, rfl, by decide +kernel, rfl, by decide +kernel, by decide +kernel⟩
theorem ok_whole {f : Addr} {fd : FuncData} (T : Txt mg) (F : Fun K "is_whole" "is_whole" s_is_whole f fd) : FnOk P w K mg base CX0 1 f fd ["value", "low", "high"] spWhole := by
  refine F.ok sc_whole (fun vs H Q E h => ?_) (fun cdv A outer s H vs Q E hr h => ?_)
  · obtain ⟨i, lo, hi, rfl, _⟩ := h
    rfl
  · obtain ⟨i, lo, hi, rfl, h1, h2, k⟩ := h
    refine ⟨_, pss_one (ps_ret (pe_and (pe_callB call_isi (by rfl) T.isin (by decide +kernel) (pa_cons (pv 0) (pa_cons (pe_bltn (v := .ty "int") (by rfl) T.int (by decide +kernel) rfl) pa_nil)))
      (pe_and (pe_not (pe_callB call_isi (by rfl) T.isin (by decide +kernel) (pa_cons (pv 0) (pa_cons (pe_bltn (v := .ty "bool") (by rfl) T.bool (by decide +kernel) rfl) pa_nil)))) (pe_one (pe_chain op_le op_le (pv 1) (pv 0) (pv 2)))))), ?_⟩
    exact ⟨_, rfl, _, _, _, _, true, rfl, .ty _, .base (.int i), kit_ty (by decide +kernel), true, rfl, iteT ⟨_, rfl, _, _, _, _, false, rfl, .ty _, .base (.int i), kit_ty (by decide +kernel), false, rfl, true, rfl, iteT
      ⟨_, rfl, _, rfl, lo, i, rfl, rfl, true, dT h1, iteT ⟨_, rfl, i, hi, rfl, rfl, qT h2 k⟩⟩⟩⟩
def spSg : Sp := fun vs H Q _ => ∃ c : Nat, vs = [.str ⟨#[c]⟩] ∧ SgOk c ∧ Q (.bl true) H
theorem sc_sg : FnScope ["sign"] ["sign"] (defScope s_is_sign) := ⟨rfl, rfl, rfl, by decide +kernel, rfl, by decide +kernel, by decide +kernel⟩
theorem ok_sg {f : Addr} {fd : FuncData} (T : Txt mg) (N : Consts mg) (F : Fun K "is_sign" "is_sign" s_is_sign f fd) : FnOk P w K mg base CX0 1 f fd ["sign"] spSg := by
  refine F.ok sc_sg (fun vs H Q E h => ?_) (fun cdv A outer s H vs Q E hr h => ?_)
  · obtain ⟨c, rfl, _⟩ := h
    rfl
  · obtain ⟨c, rfl, ⟨h1, h2, h3⟩, k⟩ := h
    obtain ⟨t1, e1⟩ := N.blank
    obtain ⟨t2, e2⟩ := N.tilde
    obtain ⟨t3, e3⟩ := N.percent
    refine ⟨_, pss_one (ps_ret (pe_and (pe_chain op_le op_le (pe_glob (v := .int 32) rfl e1 ⟨_, rfl⟩) (pe_callB call_ord (by rfl) T.ord (by decide +kernel) (pa_cons (pv 0) pa_nil)) (pe_glob (v := .int 126) rfl e2 ⟨_, rfl⟩))
      (pe_one (pe_cmpR op_ne (pe_callB call_ord (by rfl) T.ord (by decide +kernel) (pa_cons (pv 0) pa_nil)) (pe_glob (v := .int 37) rfl e3 ⟨_, rfl⟩) (nomark _))))), ?_⟩
    refine ⟨_, rfl, _, rfl, rfl, 32, (c : Int), rfl, rfl, true, dT (show (32 : Int) ≤ c by omega), iteT ⟨(c : Int), 126, rfl, rfl, ?_⟩⟩
    have e4 : V.bl (decide ((c : Int) ≤ 126)) = V.bl true := dT (by omega)
    refine ⟨true, e4, iteT ⟨_, rfl, _, rfl, rfl, rfl, qN (fun z => ?_) k⟩⟩
    injection z with z
    exact h3 (Int.ofNat.inj z)
def spText (cs : List (Addr × Addr)) : Sp := fun vs H Q _ => ∃ (z : Str) (m : Int), vs = [.str z, .int m] ∧ Tabs cs H ∧ (z.length : Int) ≤ m ∧ z.length ≤ 1000 ∧ (∀ c ∈ z.cps.toList, SgOk c) ∧ ∀ H', Ex cs H H' → Q (.bl true) H'
theorem sc_text : FnScope ["value", "most"] ["value", "most"] (defScope s_is_text) := ⟨rfl, rfl, rfl, by decide +kernel, rfl, by decide +kernel, by decide +kernel⟩
theorem ok_text {f c Pt g : Addr} {fd fdg : FuncData} {cs : List (Addr × Addr)} (T : Txt mg) (F : Fun K "is_text_of_signs" "is_text_of_signs" s_is_text f fd) (hc : fd.code = .ref c) (TB : GxR.TabB base mg c Pt) (hm : (c, Pt) ∈ cs)
    (G : FnOk P w K mg base CX0 1 g fdg ["sign"] spSg) (kp : PySem.W.keepIn K (.ref g) = true) (bd : Binds K fdg ["sign"] []) (mgg : mg "is_sign" = some (.ref g)) : FnOk P w K mg base CX0 5 f fd ["value", "most"] (spText cs) := by
  refine fun_okT F hc sc_text (fun vs H Q E h => ?_) (fun A outer s H vs Q E hr h => ?_)
  · obtain ⟨z, m, rfl, _⟩ := h
    rfl
  · obtain ⟨z, m, rfl, hT, h1, h2, h3, k⟩ := h
    refine ⟨_, pss_one (ps_ret (pe_and (pe_callB call_isi (by rfl) T.isin (by decide +kernel) (pa_cons (pv 0) (pa_cons (pe_bltn (v := .ty "str") (by rfl) T.str (by decide +kernel) rfl) pa_nil)))
      (pe_and (pe_cmpR op_le (pe_callB call_len_str (by rfl) T.len PySem.boot_len (pa_cons (pv 0) pa_nil)) (pv 1) (nomark _))
        (pe_one (pe_allG (k := 1) (P := Pt) hr (by rfl) T.all TB rfl ⟨rfl, rfl, by decide +kernel, by decide +kernel, rfl, rfl⟩ (pi_str (pv 0)) (fun A' code s4 H4 fp hr' => pe_call G hr' (by rfl) mgg kp bd .nil pass0 (pa_cons (pv 0) pa_nil)) (fun _ => rfl)))))), ?_⟩
    refine ⟨_, rfl, _, _, _, _, true, rfl, .ty _, .base (.str z), kit_ty (by decide +kernel), true, rfl, iteT ⟨_, rfl, z, rfl, line10 h2, _, rfl, _, _, rfl, rfl, true, dT h1, iteT ⟨_, rfl, z, rfl, hT _ hm, fun H2 hH2 => ?_⟩⟩⟩
    refine all_by (w := walk_str (z := z)) (fun _ => true) (fun _ H' => H' = H2) rfl (fun _ _ _ _ => trivial) (fun i v H3 H4 hi e y Z hZ => ?_) (fun H3 e _ => ?_) (fun i H3 _ e _ => by cases e)
    · obtain ⟨rfl, c, hc, rfl⟩ := y
      subst e
      refine ⟨_, rfl, c, rfl, h3 c ?_, hZ _ rfl⟩
      exact List.mem_of_getElem? (by rw [Array.getElem?_toList]; exact hc)
    · subst e
      exact k _ (Ex.tabbed hT hm hH2)
end
end TG
namespace TG
open PySem L2 Gx
/-- a page: its rows' tuples at as -/
structure PageAt (K : PySem.W.Frag) (H : Hp) (a : Addr) (as : List Addr) (rows : List (List Str)) : Prop where
  lst : SqL K H a (as.map V.ref)
  len : as.length = rows.length
  row : ∀ (i : Nat) (p : Addr) (r : List Str), as[i]? = some p → rows[i]? = some r → SqT K H p (sV r)
structure PgOk (rows : List (List Str)) : Prop where
  pos : 1 ≤ rows.length
  len : rows.length ≤ 30
  rows : ∀ r ∈ rows, RowOk r
theorem PageAt.ex {K : PySem.W.Frag} {cs : List (Addr × Addr)} {H H' : Hp} {a : Addr} {as : List Addr} {rows : List (List Str)} (p : PageAt K H a as rows) (e : Ex cs H H') : PageAt K H' a as rows :=
  ⟨e.sqL p.lst, p.len, fun i q r h1 h2 => e.sqT (p.row i q r h1 h2)⟩
theorem get_map {α β : Type} {f : α → β} {xs : List α} {i : Nat} {y : β} (h : (xs.map f)[i]? = some y) : ∃ x, xs[i]? = some x ∧ y = f x := by
  rw [List.getElem?_map] at h
  cases e : xs[i]? with
  | none => rw [e] at h; cases h
  | some x => rw [e] at h; cases h; exact ⟨x, rfl, rfl⟩
theorem getP {α : Type} {xs : List α} {i : Nat} (h : i < xs.length) : ∃ x, xs[i]? = some x := ⟨xs[i], List.getElem?_eq_getElem h⟩
section
variable {P : Program} {w : World} {K : PySem.W.Frag} {mg : Str → Option Value} {base : Heap} {cs : List (Addr × Addr)}
def spRow (K : PySem.W.Frag) (cs : List (Addr × Addr)) : Sp := fun vs H Q _ => ∃ (a : Addr) (r : List Str), vs = [.ref a] ∧ Tabs cs H ∧ SqT K H a (sV r) ∧ RowOk r ∧ ∀ H', Ex cs H H' → Q (.bl true) H'
theorem sc_row : FnScope ["value"] ["value"] (defScope s_is_row) := ⟨rfl, rfl, rfl, by decide +kernel, rfl, by decide +kernel, by decide +kernel⟩
theorem ok_isrow {f c Pt g : Addr} {fd fdg : FuncData} (T : Txt mg) (N : Consts mg) (F : Fun K "is_row" "is_row" s_is_row f fd) (hc : fd.code = .ref c) (TB : GxR.TabB base mg c Pt) (hm : (c, Pt) ∈ cs)
    (G : FnOk P w K mg base CX0 5 g fdg ["value", "most"] (spText cs)) (kp : PySem.W.keepIn K (.ref g) = true) (bd : Binds K fdg ["value", "most"] []) (mgg : mg "is_text_of_signs" = some (.ref g)) : FnOk P w K mg base CX0 9 f fd ["value"] (spRow K cs) := by
  refine fun_okT F hc sc_row (fun vs H Q E h => ?_) (fun A outer s H vs Q E hr h => ?_)
  · obtain ⟨a, r, rfl, _⟩ := h
    rfl
  · obtain ⟨a, r, rfl, hT, hS, ⟨p1, p2, p3⟩, k⟩ := h
    obtain ⟨t1, e1⟩ := N.cells
    obtain ⟨t2, e2⟩ := N.signs
    refine ⟨_, pss_cons (ps_if (PW.pt (pw_or (pt_not (pt_val (pe_callB call_isi (by rfl) T.isin (by decide +kernel) (pa_cons (pv 0) (pa_cons (pe_bltn (v := .ty "tuple") (by rfl) T.tuple (by decide +kernel) rfl) pa_nil)))))
        (pw_or1 (pt_not (pt_chain op_le op_le pe_int (pe_callB call_len_seq (by rfl) T.len PySem.boot_len (pa_cons (pv 0) pa_nil)) (pe_glob (v := .int 6) rfl e1 ⟨_, rfl⟩)))))) (pss_one (ps_ret pe_bl)) pss_nil)
      (pss_one (ps_ret (pe_allG (k := 5) (P := Pt) hr (by rfl) T.all TB rfl ⟨rfl, rfl, by decide +kernel, by decide +kernel, rfl, rfl⟩ (pi_tup (pv 0))
        (fun A' code s4 H4 fp hr' => pe_call G hr' (by rfl) mgg kp bd .nil pass0 (pa_cons (pv 0) (pa_cons (pe_glob (v := .int 10) rfl e2 ⟨_, rfl⟩) pa_nil))) (fun _ => rfl)))), ?_⟩
    have hl : (sV r).length = r.length := List.length_map ..
    refine ⟨_, rfl, _, _, _, _, true, rfl, .ty _, ty_tup hS, kit_ty (by decide +kernel), true, rfl, iteF ⟨_, rfl, a, _, rfl, .inr hS, 1, _, rfl, rfl, true, dT (by omega), iteT ⟨_, 6, rfl, rfl, true, dT (by omega), iteF ?_⟩⟩⟩
    refine ⟨_, rfl, a, rfl, ⟨_, hS⟩, hT _ hm, fun H2 hH2 => ?_⟩
    have x2 := Ex.tabbed hT hm hH2
    refine all_by (w := walk_tup (a := a) (xs := sV r)) (fun _ => true) (fun _ H' => Ex cs H H') x2 (fun i H' _ x => x.sqT hS) (fun i v H3 H4 hi x y Z hZ => ?_) (fun H3 x _ => k _ x) (fun i H3 _ e _ => by cases e)
    obtain ⟨rfl, hv⟩ := y
    obtain ⟨z, hz, rfl⟩ := get_map hv
    obtain ⟨c1, c2⟩ := p3 z (List.mem_of_getElem? hz)
    exact ⟨_, rfl, z, 10, rfl, x.tab, by omega, by omega, c2, fun H5 x5 => hZ _ (x.trans x5)⟩
def spCheck (K : PySem.W.Frag) (cs : List (Addr × Addr)) : Sp := fun vs H Q _ => ∃ (a : Addr) (as : List Addr) (rows : List (List Str)), vs = [.ref a] ∧ Tabs cs H ∧ PageAt K H a as rows ∧ PgOk rows ∧ ∀ H', Ex cs H H' → Q .non H'
theorem sc_misfit : FnScope ["rows", "number", "row"] ["rows"] (defScope s_misfit) := ⟨rfl, rfl, rfl, by decide +kernel, rfl, by decide +kernel, by decide +kernel⟩
theorem ok_misfit {f g : Addr} {fd fdg : FuncData} (T : Txt mg) (N : Consts mg) (F : Fun K "first_misfit" "first_misfit" s_misfit f fd)
    (G : FnOk P w K mg base CX0 9 g fdg ["value"] (spRow K cs)) (kp : PySem.W.keepIn K (.ref g) = true) (bd : Binds K fdg ["value"] []) (mgg : mg "is_row" = some (.ref g)) : FnOk P w K mg base CX0 10 f fd ["rows"] (spCheck K cs) := by
  refine F.ok sc_misfit (fun vs H Q E h => ?_) (fun cdv A outer s H vs Q E hr h => ?_)
  · obtain ⟨a, as, rows, rfl, _⟩ := h
    rfl
  · obtain ⟨a, as, rows, rfl, hT, hP, hO, k⟩ := h
    have nd := sc_misfit.nd
    obtain ⟨t1, e1⟩ := N.rows
    refine ⟨_, pss_cons (ps_for PassesOwn.never rfl (pi_enum (by rfl) T.enum (pa_cons (pv 0) pa_nil)) (pg_tup rfl (pgs_cons (pg_name (i := 1) nd rfl (.inl rfl)) (pgs_cons (pg_name (i := 2) nd rfl (.inl rfl)) pgs_nil)))
        (pss_one (ps_if (PW.pt (pw_or (pt_cmpR op_eq (pv 1) (pe_glob (v := .int 30) rfl e1 ⟨_, rfl⟩) (nomark _)) (pw_or1 (pt_not (pt_val (pe_call G hr (by rfl) mgg kp bd .nil pass0 (pa_cons (pv 2) pa_nil))))))) (pss_one ps_never) pss_nil)))
      (pss_one (ps_ret pe_non)), ?_⟩
    have hl : (as.map V.ref).length = rows.length := by rw [List.length_map]; exact hP.len
    have := hO.pos
    have := hO.len
    refine ⟨_, rfl, a, _, rfl, hP.lst, for_it (walk_enum (xs := as.map V.ref)) (fun _ σ H' => Ex cs H H' ∧ σ[0]? = some (some (.ref a)) ∧ σ.length = 3) ⟨Ex.refl hT, rfl, rfl⟩ (fun i σ H' _ x => x.1.sqL hP.lst) ?_ ?_⟩
    · rintro i x σ H3 H4 hi ⟨x3, s0, sl⟩ ⟨Tp, v, u, rfl, hn, rfl, hv, hu⟩
      cases hv
      obtain ⟨p, hp, rfl⟩ := get_map hu
      have hi2 : i < rows.length := by omega
      obtain ⟨r, hr2⟩ := getP hi2
      have xl := Ex.laid (o := .tup [.int (i : Nat), .ref p]) x3.tab hn
      refine ⟨Tp, _, rfl, .inl (.inl upd_same), rfl, _, _, rfl, _, _, rfl, rfl, ?_⟩
      have g1 : ((σ.set 1 (some (V.int (i : Nat)))).set 2 (some (V.ref p)))[1]? = some (some (V.int (i : Nat))) := by
        rw [List.getElem?_set_ne (by decide)]
        exact List.getElem?_set_self (by omega)
      have g2 : ((σ.set 1 (some (V.int (i : Nat)))).set 2 (some (V.ref p)))[2]? = some (some (V.ref p)) := List.getElem?_set_self (by rw [List.length_set]; omega)
      refine ⟨_, g1, rfl, false, dF (fun z => by injection z with z; omega), iteF ⟨_, g2, p, r, rfl, xl.tab, (x3.trans xl).sqT (hP.row i p r hp hr2), hO.rows r (List.mem_of_getElem? hr2), fun H5 x5 => ⟨true, rfl, iteF ⟨(x3.trans xl).trans x5, ?_, ?_⟩⟩⟩⟩
      · rw [List.getElem?_set_ne (by decide), List.getElem?_set_ne (by decide)]; exact s0
      · rw [List.length_set, List.length_set]; exact sl
    · rintro σ H' ⟨x, _⟩
      exact k H' x
theorem sc_check : FnScope ["page", "number"] ["page"] (defScope s_check_page) := ⟨rfl, rfl, rfl, by decide +kernel, rfl, by decide +kernel, by decide +kernel⟩
theorem ok_check {f g : Addr} {fd fdg : FuncData} (T : Txt mg) (F : Fun K "check_page" "check_page" s_check_page f fd)
    (G : FnOk P w K mg base CX0 10 g fdg ["rows"] (spCheck K cs)) (kp : PySem.W.keepIn K (.ref g) = true) (bd : Binds K fdg ["rows"] []) (mgg : mg "first_misfit" = some (.ref g)) : FnOk P w K mg base CX0 11 f fd ["page"] (spCheck K cs) := by
  refine F.ok sc_check (fun vs H Q E h => ?_) (fun cdv A outer s H vs Q E hr h => ?_)
  · obtain ⟨a, as, rows, rfl, _⟩ := h
    rfl
  · obtain ⟨a, as, rows, rfl, hT, hP, hO, k⟩ := h
    have nd := sc_check.nd
    refine ⟨_, pss_cons (ps_if (PW.pt (pw_or (pt_not (pt_val (pe_callB call_isi (by rfl) T.isin (by decide +kernel) (pa_cons (pv 0) (pa_cons (pe_bltn (v := .ty "list") (by rfl) T.list (by decide +kernel) rfl) pa_nil)))))
        (pw_or1 (pt_cmpR op_eq (pe_callB call_len_seq (by rfl) T.len PySem.boot_len (pa_cons (pv 0) pa_nil)) pe_int (nomark _))))) (pss_one ps_never) pss_nil)
      (pss_cons (ps_set (i := 1) nd rfl (.inl rfl) (pe_call G hr (by rfl) mgg kp bd .nil pass0 (pa_cons (pv 0) pa_nil)))
      (pss_one (ps_if (pt_cmpR op_notN (pv 1) pe_non (nomark _)) (pss_one ps_never) pss_nil))), ?_⟩
    have hl : (as.map V.ref).length = rows.length := by rw [List.length_map]; exact hP.len
    have := hO.pos
    have := hO.len
    refine ⟨_, rfl, _, _, _, _, true, rfl, .ty _, ty_list hP.lst, kit_ty (by decide +kernel), true, rfl, iteF ⟨_, rfl, a, _, rfl, .inl hP.lst, rfl, false, dF (fun z => by injection z with z; omega), iteF ?_⟩⟩
    exact ⟨_, rfl, a, as, rows, rfl, hT, hP, hO, fun H' x => ⟨_, rfl, rfl, false, rfl, iteF (k H' x)⟩⟩
structure StyleAt (K : PySem.W.Frag) (H : Hp) (a : Addr) (gap least : Int) : Prop where
  tup : SqT K H a [.int gap, .int least]
  g0 : 0 ≤ gap
  g1 : gap ≤ 4
  l0 : 0 ≤ least
  l1 : least ≤ 12
def spStyle (K : PySem.W.Frag) : Sp := fun vs H Q _ => ∃ (a : Addr) (gap least : Int), vs = [.ref a] ∧ StyleAt K H a gap least ∧ Q .non H
theorem sc_style : FnScope ["style", "gap", "least"] ["style"] (defScope s_check_style) := ⟨rfl, rfl, rfl, by decide +kernel, rfl, by decide +kernel, by decide +kernel⟩
theorem ok_cstyle {f g : Addr} {fd fdg : FuncData} (T : Txt mg) (N : Consts mg) (F : Fun K "check_style" "check_style" s_check_style f fd)
    (G : FnOk P w K mg base CX0 1 g fdg ["value", "low", "high"] spWhole) (kp : PySem.W.keepIn K (.ref g) = true) (bd : Binds K fdg ["value", "low", "high"] []) (mgg : mg "is_whole" = some (.ref g)) : FnOk P w K mg base CX0 2 f fd ["style"] (spStyle K) := by
  refine F.ok sc_style (fun vs H Q E h => ?_) (fun cdv A outer s H vs Q E hr h => ?_)
  · obtain ⟨a, gap, least, rfl, _⟩ := h
    rfl
  · obtain ⟨a, gap, least, rfl, ⟨hS, g0, g1, l0, l1⟩, k⟩ := h
    have nd := sc_style.nd
    obtain ⟨t1, e1⟩ := N.gap
    obtain ⟨t2, e2⟩ := N.least
    refine ⟨_, pss_cons (ps_if (PW.pt (pw_or (pt_not (pt_val (pe_callB call_isi (by rfl) T.isin (by decide +kernel) (pa_cons (pv 0) (pa_cons (pe_bltn (v := .ty "tuple") (by rfl) T.tuple (by decide +kernel) rfl) pa_nil)))))
        (pw_or1 (pt_cmpR op_ne (pe_callB call_len_seq (by rfl) T.len PySem.boot_len (pa_cons (pv 0) pa_nil)) pe_int (nomark _))))) (pss_one ps_never) pss_nil)
      (pss_cons (ps_asg (pv 0) (pg_tup rfl (pgs_cons (pg_name (i := 1) nd rfl (.inl rfl)) (pgs_cons (pg_name (i := 2) nd rfl (.inl rfl)) pgs_nil))))
      (pss_one (ps_if (PW.pt (pw_or (pt_not (pt_val (pe_call G hr (by rfl) mgg kp bd .nil pass0 (pa_cons (pv 1) (pa_cons pe_int (pa_cons (pe_glob (v := .int 4) rfl e1 ⟨_, rfl⟩) pa_nil))))))
        (pw_or1 (pt_not (pt_val (pe_call G hr (by rfl) mgg kp bd .nil pass0 (pa_cons (pv 2) (pa_cons pe_int (pa_cons (pe_glob (v := .int 12) rfl e2 ⟨_, rfl⟩) pa_nil))))))))) (pss_one ps_never) pss_nil))), ?_⟩
    refine ⟨_, rfl, _, _, _, _, true, rfl, .ty _, ty_tup hS, kit_ty (by decide +kernel), true, rfl, iteF ⟨_, rfl, a, _, rfl, .inr hS, rfl, false, rfl, iteF ?_⟩⟩
    exact ⟨_, rfl, a, _, rfl, hS, rfl, _, _, rfl, _, _, rfl, rfl, _, rfl, gap, 0, 4, rfl, g0, g1, true, rfl, iteF ⟨_, rfl, least, 0, 12, rfl, l0, l1, true, rfl, iteF k⟩⟩
end
end TG
namespace TG
open PySem L2 Gx
abbrev cl (z : Str) : List Nat := z.cps.toList
def restL (l : List Nat) : List Nat := if l.head? = some 45 then l.tail else l
def figB (z : Str) : Bool := decide (restL (cl z) ≠ []) && (restL (cl z)).all fun c => decide (48 ≤ c ∧ c ≤ 57)
theorem digit_lt : ∀ c < 127, Unicode.isDigit c = decide (48 ≤ c ∧ c ≤ 57) := by decide +kernel
theorem isdigit_eq {z : Str} (h : ∀ c ∈ cl z, c < 127) : Txt.isdigit z = (decide (cl z ≠ []) && (cl z).all fun c => decide (48 ≤ c ∧ c ≤ 57)) := by
  obtain ⟨⟨l⟩⟩ := z
  unfold Txt.isdigit
  simp only [Str.length, cl] at h ⊢
  congr 1
  · cases l <;> simp
  · rw [Bool.eq_iff_iff]
    simp only [List.all_eq_true, List.all_toArray]
    constructor
    · intro q c hc
      rw [← digit_lt c (h c hc)]; exact q c hc
    · intro q c hc
      rw [digit_lt c (h c hc)]; exact q c hc
theorem cut1 (z : Str) : cl (cutS z (some 1) none) = (cl z).tail := by
  obtain ⟨⟨l⟩⟩ := z
  unfold cutS
  simp only [cl, Str.length]
  rw [HT.sIx_none, show (some (1 : Int)) = some ((1 : Nat) : Int) from rfl, HT.sIx_nat]
  cases l with
  | nil => simp
  | cons a l => simp
theorem starts_dash (z : Str) : Txt.startswith z "-" = decide ((cl z).head? = some 45) := by
  obtain ⟨⟨l⟩⟩ := z
  have e : ("-" : Str) = ⟨#[45]⟩ := by decide +kernel
  rw [e]
  unfold Txt.startswith Builtin.Str.subAt
  cases l with
  | nil => simp [Str.length, cl]
  | cons a l =>
    simp only [Str.length, cl, List.head?_cons]
    by_cases h : a = 45
    · subst h
      simp
    · simp [h]
theorem str_ext {a b : Str} (h : cl a = cl b) : a = b := by
  obtain ⟨⟨a⟩⟩ := a
  obtain ⟨⟨b⟩⟩ := b
  have h : a = b := h
  rw [h]
section
variable {P : Program} {w : World} {K : PySem.W.Frag} {mg : Str → Option Value} {base : Heap} {cs : List (Addr × Addr)}
def spFig : Sp := fun vs H Q _ => ∃ z : Str, vs = [.str z] ∧ CellOk z ∧ Q (.bl (figB z)) H
theorem sc_isfig : FnScope ["cell"] ["cell"] (defScope s_is_figures) := ⟨rfl, rfl, rfl, by decide +kernel, rfl, by decide +kernel, by decide +kernel⟩
theorem ok_isfig {f : Addr} {fd : FuncData} (F : Fun K "is_figures" "is_figures" s_is_figures f fd) : FnOk P w K mg base CX0 1 f fd ["cell"] spFig := by
  refine F.ok sc_isfig (fun vs H Q E h => ?_) (fun cdv A outer s H vs Q E hr h => ?_)
  · obtain ⟨z, rfl, _⟩ := h
    rfl
  · obtain ⟨z, rfl, ⟨h1, h2⟩, k⟩ := h
    refine ⟨_, pss_cons (ps_if (pt_val (pe_m1 PySem.F.slot_str_startswith PySem.F.type_str_startswith mt_startswith (pv 0) pe_str)) (pss_one (ps_ret (pe_m0 PySem.F.slot_str_isdigit PySem.F.type_str_isdigit mt_isdigit (pe_slice sl_str (pv 0) (po_some pe_int) po_none)))) pss_nil)
      (pss_one (ps_ret (pe_m0 PySem.F.slot_str_isdigit PySem.F.type_str_isdigit mt_isdigit (pv 0)))), ?_⟩
    have lt : ∀ c ∈ cl z, c < 127 := fun c hc => by have := h2 c hc; unfold SgOk at this; omega
    refine ⟨_, rfl, ⟨_, rfl⟩, z, _, rfl, rfl, _, rfl, ?_⟩
    rw [starts_dash]
    by_cases hd : (cl z).head? = some 45
    · rw [decide_eq_true hd]
      refine iteT ⟨_, rfl, 1, rfl, z, rfl, line10 (by omega), ⟨_, rfl⟩, _, rfl, rfl, trivial, ?_⟩
      have e : Txt.isdigit (cutS z (some 1) none) = figB z := by
        rw [isdigit_eq (fun c hc => lt c (by rw [cut1] at hc; exact List.mem_of_mem_tail hc)), cut1]
        unfold figB restL
        rw [if_pos hd]
      rw [e]
      exact k
    · rw [decide_eq_false hd]
      refine iteF ⟨_, rfl, ⟨_, rfl⟩, _, rfl, rfl, trivial, ?_⟩
      have e : Txt.isdigit z = figB z := by
        rw [isdigit_eq lt]
        unfold figB restL
        rw [if_neg hd]
      rw [e]
      exact k
end
end TG
namespace TG
open PySem L2 Gx
def fillB (zs : List Str) : List Str := zs.filter fun z => decide (cl z ≠ [])
def rightB (zs : List Str) : Bool := decide (fillB zs ≠ []) && (fillB zs).all figB
theorem ne_empty (z : Str) : (!decide (V.str z = V.str "")) = decide (cl z ≠ []) := by
  have e : ("" : Str) = ⟨#[]⟩ := by decide +kernel
  by_cases h : cl z = []
  · have q : z = "" := str_ext (by rw [h, e])
    rw [decide_eq_true (show V.str z = V.str "" by rw [q]), decide_eq_false (fun n => n h)]
    rfl
  · rw [decide_eq_false (show ¬ V.str z = V.str "" from fun q => h (by injection q with q; rw [q, e])), decide_eq_true h]
    rfl
theorem filter_take {α : Type} {p : α → Bool} {xs : List α} {i : Nat} {x : α} (h : xs[i]? = some x) : (xs.take (i + 1)).filter p = (xs.take i).filter p ++ (if p x = true then [x] else []) := by
  rw [List.take_add_one, h, List.filter_append]
  congr 1
  by_cases hp : p x = true
  · rw [if_pos hp]
    simp [hp]
  · rw [if_neg hp]
    simp [hp]
section
variable {P : Program} {w : World} {K : PySem.W.Frag} {mg : Str → Option Value} {base : Heap} {cs : List (Addr × Addr)}
def spRight (K : PySem.W.Frag) (cs : List (Addr × Addr)) : Sp := fun vs H Q _ => ∃ (a : Addr) (zs : List Str), vs = [.ref a] ∧ Tabs cs H ∧ SqL K H a (sV zs) ∧ zs.length ≤ 1000 ∧ (∀ z ∈ zs, CellOk z) ∧ ∀ H', Ex cs H H' → Q (.bl (rightB zs)) H'
theorem sc_right : FnScope ["cells", "filled", "cell"] ["cells"] (defScope s_stands_right) := ⟨rfl, rfl, rfl, by decide +kernel, rfl, by decide +kernel, by decide +kernel⟩
theorem ok_right {f c Pt g : Addr} {fd fdg : FuncData} (T : Txt mg) (F : Fun K "stands_right" "stands_right" s_stands_right f fd) (hc : fd.code = .ref c) (TB : GxR.TabB base mg c Pt) (hm : (c, Pt) ∈ cs)
    (G : FnOk P w K mg base CX0 1 g fdg ["cell"] spFig) (kp : PySem.W.keepIn K (.ref g) = true) (bd : Binds K fdg ["cell"] []) (mgg : mg "is_figures" = some (.ref g)) : FnOk P w K mg base CX0 5 f fd ["cells"] (spRight K cs) := by
  refine fun_okT F hc sc_right (fun vs H Q E h => ?_) (fun A outer s H vs Q E hr h => ?_)
  · obtain ⟨a, zs, rfl, _⟩ := h
    rfl
  · obtain ⟨a, zs, rfl, hT, hS, hl, hz, k⟩ := h
    have nd := sc_right.nd
    refine ⟨_, pss_cons (ps_setLc (i := 1) (own := [("cell", 2)]) (g := gName 2) rfl nd rfl rfl (sw_true rfl rfl rfl (by decide +kernel)) (pi_list (pv 0)) (blkOk_by (own := [("cell", 2)]) (N := ["cells", "filled", "cell"]) (sc := defScope s_stands_right) (by decide +kernel))
        (fun _ _ _ _ _ => pg_name (i := 2) nd rfl (Or.inl rfl)) (fun _ _ _ _ _ => pts_one (pt_cmpR op_ne (pv 2) pe_str (nomark _))) (fun _ _ _ _ _ => pv 2))
      (pss_one (ps_ret (pe_and (pe_cmpR op_gt (pe_callB call_len_seq (by rfl) T.len PySem.boot_len (pa_cons (pv 1) pa_nil)) pe_int (nomark _))
        (pe_one (pe_allG (k := 1) (P := Pt) hr (by rfl) T.all TB rfl ⟨rfl, rfl, by decide +kernel, by decide +kernel, rfl, rfl⟩ (pi_list (pv 1)) (fun A' code s4 H4 fp hr' => pe_call G hr' (by rfl) mgg kp bd .nil pass0 (pa_cons (pv 0) pa_nil)) (fun _ => rfl)))))), ?_⟩
    have ls : (sV zs).length = zs.length := List.length_map ..
    refine ⟨_, rfl, a, rfl, ⟨_, hS⟩, fun D nD => lc_list (xs := sV zs) (fun i H' => Ex cs H H' ∧ H' D = some (.lst (sV (fillB (zs.take i))))) ⟨Ex.laid hT nD, upd_same⟩ (fun i H' _ p => p.1.sqL hS) ?_ ?_⟩
    · rintro i x H1 hx ⟨x1, hD⟩
      obtain ⟨z, hz1, rfl⟩ := get_map hx
      have hi : i < zs.length := (List.getElem?_eq_some_iff.mp hz1).1
      have hf := filter_take (p := fun z => decide (cl z ≠ [])) hz1
      refine ⟨rfl, _, rfl, rfl, _, rfl, ?_⟩
      rw [ne_empty]
      by_cases hc : cl z ≠ []
      · rw [decide_eq_true hc]
        rw [if_pos (decide_eq_true hc)] at hf
        refine iteT ⟨_, rfl, _, hD, ?_, ex_new hT x1 nD, ?_⟩
        · have q : (fillB (zs.take i)).length ≤ (zs.take i).length := List.length_filter_le ..
          have q2 : (sV (fillB (zs.take i))).length = (fillB (zs.take i)).length := List.length_map ..
          rw [List.length_take] at q
          have : (1000 : Nat) < sizeLine := by decide
          omega
        · rw [upd_same]
          unfold fillB
          rw [hf]
          simp [sV]
      · rw [decide_eq_false hc]
        rw [if_neg (by rw [decide_eq_false hc]; exact Bool.false_ne_true), List.append_nil] at hf
        refine iteF ⟨x1, ?_⟩
        unfold fillB
        rw [hf]
        exact hD
    · rintro H1 ⟨x1, hD⟩
      rw [ls, List.take_of_length_le (Nat.le_refl _)] at hD
      have hf : ∀ z ∈ fillB zs, CellOk z := fun z h => hz z (List.mem_filter.mp h).1
      refine ⟨_, rfl, D, _, rfl, .inl (SqL.of hD), _, 0, rfl, rfl, _, rfl, ?_⟩
      have lf : (sV (fillB zs)).length = (fillB zs).length := List.length_map ..
      by_cases hn : fillB zs = []
      · have e0 : decide (((sV (fillB zs)).length : Int) > 0) = false := decide_eq_false (by rw [hn]; simp)
        rw [e0]
        refine iteF ?_
        have e : rightB zs = false := by
          unfold rightB
          rw [decide_eq_false (fun q => q hn)]
          rfl
        rw [← e]
        exact k _ x1
      · have hp : 0 < (fillB zs).length := List.length_pos_iff.mpr hn
        have e0 : decide (((sV (fillB zs)).length : Int) > 0) = true := decide_eq_true (by omega)
        rw [e0]
        refine iteT ⟨_, rfl, D, rfl, ⟨_, SqL.of hD⟩, x1.tab _ hm, fun H2 hH2 => ?_⟩
        have x2 := Ex.tabbed x1.tab hm hH2
        have hR : rightB zs = (fillB zs).all figB := by
          unfold rightB
          rw [decide_eq_true hn, Bool.true_and]
        refine all_by (w := walk_list (a := D) (xs := sV (fillB zs))) (fun i => match (fillB zs)[i]? with | some z => figB z | none => true) (fun _ H' => Ex cs H H' ∧ H' D = some (.lst (sV (fillB zs)))) ⟨x1.trans x2, x2.ext _ _ hD fun ps q => by cases q⟩ (fun i H' _ x => SqL.of x.2) (fun i v H3 H4 hi x y Z hZ => ?_) (fun H3 x hall => ?_) (fun i H3 hi hff x => ?_)
        · obtain ⟨rfl, hv⟩ := y
          obtain ⟨z, hz2, rfl⟩ := get_map hv
          refine ⟨_, rfl, z, rfl, hf z (List.mem_of_getElem? hz2), ?_⟩
          have := hZ _ x
          rw [hz2] at this
          exact this
        · have e : rightB zs = true := by
            rw [hR, List.all_eq_true]
            intro z hzm
            obtain ⟨i, hi, e⟩ := List.getElem_of_mem hzm
            have q := hall i (by omega)
            rw [List.getElem?_eq_getElem hi, e] at q
            exact q
          rw [← e]
          exact k _ x.1
        · have e : rightB zs = false := by
            rw [hR, Bool.eq_false_iff]
            intro q
            rw [List.all_eq_true] at q
            have hi2 : i < (fillB zs).length := by omega
            rw [List.getElem?_eq_getElem hi2] at hff
            have := q _ (List.getElem_mem hi2)
            rw [show figB (fillB zs)[i] = false from hff] at this
            cases this
          rw [← e]
          exact k _ x.1
end
end TG
namespace TG
open PySem L2 Gx
def clB (rows : List (List Str)) (c i : Nat) : Bool := match rows[i]? with
  | some r => decide (c + 1 < r.length)
  | none => false
def hiB (rows : List (List Str)) (c i : Nat) : Nat := i + ((rows.drop i).takeWhile fun r => decide (c + 1 < r.length)).length
def stB (rows : List (List Str)) (c i : Nat) : Bool := clB rows c i && (decide (i = 0) || !clB rows c (i - 1))
def runsB (rows : List (List Str)) (c : Nat) : List (Nat × Nat) := ((List.range rows.length).filter (stB rows c)).map fun i => (i, hiB rows c i)
theorem hi_yes {rows : List (List Str)} {c i : Nat} (h : clB rows c i = true) : hiB rows c i = hiB rows c (i + 1) := by
  unfold clB at h
  cases e : rows[i]? with
  | none => rw [e] at h; cases h
  | some r =>
    rw [e] at h
    obtain ⟨hi, e2⟩ := List.getElem?_eq_some_iff.mp e
    have h' : decide (c + 1 < r.length) = true := h
    unfold hiB
    rw [List.drop_eq_getElem_cons hi, e2, List.takeWhile_cons, h', if_pos rfl, List.length_cons]
    omega
theorem hi_no {rows : List (List Str)} {c i : Nat} (h : clB rows c i = false) : hiB rows c i = i := by
  unfold clB at h
  unfold hiB
  cases e : rows[i]? with
  | none =>
    have hl : rows.length ≤ i := List.getElem?_eq_none_iff.mp e
    rw [List.drop_of_length_le hl]
    rfl
  | some r =>
    rw [e] at h
    obtain ⟨hi, e2⟩ := List.getElem?_eq_some_iff.mp e
    have h' : decide (c + 1 < r.length) = false := h
    rw [List.drop_eq_getElem_cons hi, e2, List.takeWhile_cons, h', if_neg Bool.false_ne_true]
    rfl
theorem hi_ge (rows : List (List Str)) (c i : Nat) : i ≤ hiB rows c i := Nat.le_add_right ..
theorem cl_lt {rows : List (List Str)} {c i : Nat} (h : clB rows c i = true) : i < rows.length := by
  unfold clB at h
  cases e : rows[i]? with
  | none => rw [e] at h; cases h
  | some r => exact (List.getElem?_eq_some_iff.mp e).1
theorem hi_le {rows : List (List Str)} {c i : Nat} (h : i ≤ rows.length) : hiB rows c i ≤ rows.length := by
  unfold hiB
  have := (List.takeWhile_prefix (l := rows.drop i) (fun r : List Str => decide (c + 1 < r.length))).length_le
  rw [List.length_drop] at this
  omega
theorem hi_in {rows : List (List Str)} {c : Nat} : ∀ (d i j : Nat), j = i + d → j < hiB rows c i → clB rows c j = true := by
  intro d
  induction d with
  | zero =>
    intro i j e h
    have e' : j = i := by omega
    subst e'
    cases hc : clB rows c j with
    | true => rfl
    | false =>
      rw [hi_no hc] at h
      omega
  | succ d ih =>
    intro i j e h
    cases hc : clB rows c i with
    | true =>
      rw [hi_yes hc] at h
      exact ih (i + 1) j (by omega) h
    | false =>
      rw [hi_no hc] at h
      omega
/-- one turn of the outer loop -/
theorem starts_turn {rows : List (List Str)} {c k : Nat} (hk : k = 0 ∨ clB rows c (k - 1) = false) :
    (List.range (hiB rows c k + 1)).filter (stB rows c) = (List.range k).filter (stB rows c) ++ (if clB rows c k = true then [k] else []) := by
  have key : ∀ d, k + d ≤ hiB rows c k → (List.range (k + d + 1)).filter (stB rows c) = (List.range k).filter (stB rows c) ++ (if clB rows c k = true then [k] else []) := by
    intro d
    induction d with
    | zero =>
      intro _
      rw [Nat.add_zero, List.range_succ, List.filter_append]
      congr 1
      have e : stB rows c k = clB rows c k := by
        unfold stB
        rcases hk with h | h
        · rw [decide_eq_true h]; simp
        · rw [h]; simp
      by_cases hc : clB rows c k = true
      · rw [if_pos hc]
        simp [e, hc]
      · rw [if_neg hc]
        simp [e, hc]
    | succ d ih =>
      intro hle
      rw [← Nat.add_assoc, List.range_succ, List.filter_append, ih (by omega)]
      have h1 : clB rows c (k + d) = true := hi_in d k (k + d) rfl (by omega)
      have e : stB rows c (k + d + 1) = false := by
        unfold stB
        rw [Nat.add_sub_cancel, h1, decide_eq_false (by omega)]
        simp
      simp [e]
  have h0 := hi_ge rows c k
  have := key (hiB rows c k - k) (by omega)
  rw [show k + (hiB rows c k - k) + 1 = hiB rows c k + 1 by omega] at this
  exact this
theorem starts_end {rows : List (List Str)} {c k : Nat} (h1 : rows.length ≤ k) : (List.range k).filter (stB rows c) = (List.range rows.length).filter (stB rows c) := by
  obtain ⟨d, rfl⟩ : ∃ d, k = rows.length + d := ⟨k - rows.length, by omega⟩
  clear h1
  induction d with
  | zero => rfl
  | succ d ih =>
    rw [← Nat.add_assoc, List.range_succ, List.filter_append, ih]
    have e : stB rows c (rows.length + d) = false := by
      unfold stB
      cases hc : clB rows c (rows.length + d) with
      | true => have := cl_lt hc; omega
      | false => rfl
    simp [e]
/-- pairs of numbers at ts -/
structure PairsAt (H : Hp) (ts : List Addr) (ps : List (Nat × Nat)) : Prop where
  len : ts.length = ps.length
  at_ : ∀ (i : Nat) (t : Addr) (p : Nat × Nat), ts[i]? = some t → ps[i]? = some p → H t = some (.tup [.int (p.1 : Nat), .int (p.2 : Nat)])
theorem PairsAt.snoc {H : Hp} {ts : List Addr} {ps : List (Nat × Nat)} {t : Addr} {p : Nat × Nat} (h : PairsAt H ts ps) (e : H t = some (.tup [.int (p.1 : Nat), .int (p.2 : Nat)])) : PairsAt H (ts ++ [t]) (ps ++ [p]) := by
  refine ⟨by rw [List.length_append, List.length_append, h.len]; rfl, fun i u q h1 h2 => ?_⟩
  by_cases hi : i < ts.length
  · rw [List.getElem?_append_left hi] at h1
    rw [List.getElem?_append_left (by rw [← h.len]; exact hi)] at h2
    exact h.at_ i u q h1 h2
  · have hl := (List.getElem?_eq_some_iff.mp h1).1
    rw [List.length_append, List.length_singleton] at hl
    have e1 : i = ts.length := by omega
    subst e1
    rw [List.getElem?_append_right (Nat.le_refl _), Nat.sub_self] at h1
    rw [h.len, List.getElem?_append_right (Nat.le_refl _), Nat.sub_self] at h2
    cases h1
    cases h2
    exact e
theorem PairsAt.keep {H H' : Hp} {ts : List Addr} {ps : List (Nat × Nat)} (h : PairsAt H ts ps) (k : ∀ b xs, H b = some (.tup xs) → H' b = some (.tup xs)) : PairsAt H' ts ps := ⟨h.len, fun i t p h1 h2 => k _ _ (h.at_ i t p h1 h2)⟩
section
variable {P : Program} {w : World} {K : PySem.W.Frag} {mg : Str → Option Value} {base : Heap} {cs : List (Addr × Addr)}
def spClosed (K : PySem.W.Frag) : Sp := fun vs H Q _ => ∃ (p : Addr) (r : List Str) (c : Nat), vs = [.ref p, .int (c : Nat)] ∧ SqT K H p (sV r) ∧ Q (.bl (decide (c + 1 < r.length))) H
theorem sc_closed : FnScope ["row", "column"] ["row", "column"] (defScope s_is_closed) := ⟨rfl, rfl, rfl, by decide +kernel, rfl, by decide +kernel, by decide +kernel⟩
theorem ok_closed {f : Addr} {fd : FuncData} (T : Txt mg) (F : Fun K "is_closed" "is_closed" s_is_closed f fd) : FnOk P w K mg base CX0 1 f fd ["row", "column"] (spClosed K) := by
  refine F.ok sc_closed (fun vs H Q E h => ?_) (fun cdv A outer s H vs Q E hr h => ?_)
  · obtain ⟨p, r, c, rfl, _⟩ := h
    rfl
  · obtain ⟨p, r, c, rfl, hS, k⟩ := h
    refine ⟨_, pss_one (ps_ret (pe_cmpR op_lt (pe_op op_add (pv 1) pe_int) (pe_callB call_len_seq (by rfl) T.len PySem.boot_len (pa_cons (pv 0) pa_nil)) (nomark _))), ?_⟩
    refine ⟨_, rfl, c, 1, rfl, rfl, _, rfl, p, _, rfl, .inr hS, _, _, rfl, rfl, ?_⟩
    have ls : (sV r).length = r.length := List.length_map ..
    have e : decide ((c : Int) + 1 < ((sV r).length : Int)) = decide (c + 1 < r.length) := by
      rw [ls]
      by_cases h : c + 1 < r.length
      · rw [decide_eq_true h, decide_eq_true (by omega)]
      · rw [decide_eq_false h, decide_eq_false (by omega)]
    show Q (.bl (decide ((c : Int) + 1 < ((sV r).length : Int)))) H
    rw [e]
    exact k
def spRuns (K : PySem.W.Frag) (cs : List (Addr × Addr)) : Sp := fun vs H Q _ => ∃ (a : Addr) (as : List Addr) (rows : List (List Str)) (c : Nat), vs = [.ref a, .int (c : Nat)] ∧ Tabs cs H ∧ PageAt K H a as rows ∧ rows.length ≤ 30 ∧
  ∀ (r : Addr) (ts : List Addr) (H' : Hp), Ex cs H H' → H r = none → H' r = some (.lst (ts.map V.ref)) → PairsAt H' ts (runsB rows c) → Q (.ref r) H'
theorem sc_runs : FnScope ["page", "column", "runs", "begin", "end"] ["page", "column"] (defScope s_closed_runs) := ⟨rfl, rfl, rfl, by decide +kernel, rfl, by decide +kernel, by decide +kernel⟩
theorem ok_runs {f g : Addr} {fd fdg : FuncData} (T : Txt mg) (F : Fun K "closed_runs" "closed_runs" s_closed_runs f fd)
    (G : FnOk P w K mg base CX0 1 g fdg ["row", "column"] (spClosed K)) (kp : PySem.W.keepIn K (.ref g) = true) (bd : Binds K fdg ["row", "column"] []) (mgg : mg "is_closed" = some (.ref g)) : FnOk P w K mg base CX0 2 f fd ["page", "column"] (spRuns K cs) := by
  refine F.ok sc_runs (fun vs H Q E h => ?_) (fun cdv A outer s H vs Q E hr h => ?_)
  · obtain ⟨a, as, rows, c, rfl, _⟩ := h
    rfl
  · obtain ⟨a, as, rows, c, rfl, hT, hP, hn, k⟩ := h
    have nd := sc_runs.nd
    refine ⟨_, pss_cons (ps_set (i := 2) nd rfl (.inl rfl) (pe_lst pa_nil)) (pss_cons (ps_set (i := 3) nd rfl (.inl rfl) pe_int)
      (pss_cons (ps_while PassesOwn.never (pt_cmpR op_lt (pv 3) (pe_callB call_len_seq (by rfl) T.len PySem.boot_len (pa_cons (pv 0) pa_nil)) (nomark _))
        (pss_cons (ps_set (i := 4) nd rfl (.inl rfl) (pv 3))
        (pss_cons (ps_while PassesOwn.never (PW.pt (pw_and (pt_cmpR op_lt (pv 4) (pe_callB call_len_seq (by rfl) T.len PySem.boot_len (pa_cons (pv 0) pa_nil)) (nomark _)) (pw_and1 (pt_val (pe_call G hr (by rfl) mgg kp bd .nil pass0 (pa_cons (pe_ix ix_list (pv 0) (pv 4) (fun _ _ => rfl)) (pa_cons (pv 1) pa_nil)))))))
            (pss_one (ps_aug (i := 4) nd rfl (.inl rfl) pe_int ip_add)))
        (pss_cons (ps_if (pt_cmpR op_gt (pv 4) (pv 3) (nomark _)) (pss_one (ps_expr (pe_bm PySem.F.plainAttrs_list PySem.F.slot_list_append PySem.F.type_list_append mt_append (pv 2) (pa_cons (pe_tup (pa_cons (pv 3) (pa_cons (pv 4) pa_nil))) pa_nil)))) pss_nil)
        (pss_one (ps_set (i := 3) nd rfl (.inl rfl) (pe_op op_add (pv 4) pe_int)))))))
      (pss_one (ps_ret (pv 2))))), ?_⟩
    refine ⟨small0, fun p np => ?_⟩
    -- the outer loop
    let runsAt : Nat → List (Nat × Nat) := fun k => ((List.range k).filter (stB rows c)).map fun i => (i, hiB rows c i)
    let Out : Nat → L2.St → Hp → Prop := fun m σ H1 => ∃ (b : Nat) (ts : List Addr) (e : Option V), σ = [some (.ref a), some (.int (c : Nat)), some (.ref p), some (.int (b : Nat)), e] ∧ m = rows.length + 1 - b ∧ b ≤ rows.length + 1 ∧ (b = 0 ∨ clB rows c (b - 1) = false) ∧ Ex cs H H1 ∧ H1 p = some (.lst (ts.map V.ref)) ∧ PairsAt H1 ts (runsAt b)
    refine ⟨Out, ⟨_, 0, [], none, rfl, rfl, Nat.zero_le _, .inl rfl, Ex.laid hT np, upd_same, rfl, fun i t q h => by simp at h⟩, ?_⟩
    rintro m σ H1 ⟨b, ts, e, rfl, rfl, hb, hst, x1, hp1, pr⟩
    have hl : (as.map V.ref).length = rows.length := by rw [List.length_map]; exact hP.len
    refine ⟨_, rfl, _, rfl, a, _, rfl, .inl (x1.sqL hP.lst), _, _, rfl, rfl, _, rfl, ?_⟩
    by_cases hlt : b < rows.length
    · rw [decide_eq_true (show (b : Int) < ((as.map V.ref).length : Int) by omega)]
      refine iteT ⟨Out (rows.length + 1 - (hiB rows c b + 1)), fun σ' H' o => ⟨_, by have := hi_ge rows c b; omega, o⟩, ?_⟩
      refine ⟨_, rfl, ?_⟩
      let Inn : Nat → L2.St → Hp → Prop := fun m σ H2 => ∃ e : Nat, σ = [some (.ref a), some (.int (c : Nat)), some (.ref p), some (.int (b : Nat)), some (.int (e : Nat))] ∧ m = rows.length - e ∧ b ≤ e ∧ e ≤ rows.length ∧ hiB rows c e = hiB rows c b ∧ H2 = H1
      refine ⟨Inn, ⟨_, b, rfl, rfl, Nat.le_refl _, Nat.le_of_lt hlt, rfl, rfl⟩, ?_⟩
      rintro m2 σ2 H2 ⟨e2, rfl, rfl, h1, h2, h3, rfl⟩
      refine ⟨_, rfl, _, rfl, a, _, rfl, .inl (x1.sqL hP.lst), _, _, rfl, rfl, _, rfl, ?_⟩
      have hsz : (ts.map V.ref).length < sizeLine := by
        have q1 : (runsAt b).length ≤ (List.range b).length := by
          show (((List.range b).filter (stB rows c)).map _).length ≤ _
          rw [List.length_map]
          exact List.length_filter_le ..
        rw [List.length_range] at q1
        rw [List.length_map, pr.len]
        have : (1000 : Nat) < sizeLine := by decide
        omega
      cases hcl : clB rows c e2 with
      | true =>
        have hlt2 := cl_lt hcl
        obtain ⟨q, hq⟩ := getP (xs := as) (i := e2) (by rw [hP.len]; exact hlt2)
        obtain ⟨r, hr2⟩ := getP hlt2
        have hcr : decide (c + 1 < r.length) = true := by
          unfold clB at hcl
          rw [hr2] at hcl
          exact hcl
        rw [decide_eq_true (show (e2 : Int) < ((as.map V.ref).length : Int) by omega)]
        refine iteT ⟨_, rfl, _, rfl, a, _, e2, .ref q, rfl, rfl, x1.sqL hP.lst, atI_nat (by rw [List.getElem?_map, hq]; rfl), _, rfl, q, r, c, rfl, x1.sqT (hP.row e2 q r hq hr2), true, by rw [hcr], iteT ?_⟩
        refine ⟨Inn (rows.length - (e2 + 1)), fun σ' H' o => ⟨_, by omega, o⟩, _, rfl, e2, 1, rfl, rfl, e2 + 1, rfl, rfl, by omega, by omega, by rw [← hi_yes hcl]; exact h3, rfl⟩
      | false =>
        have hnc := hcl
        have he : hiB rows c b = e2 := h3.symm.trans (hi_no hnc)
        by_cases hlt2 : e2 < rows.length
        · obtain ⟨q, hq⟩ := getP (xs := as) (i := e2) (by rw [hP.len]; exact hlt2)
          obtain ⟨r, hr2⟩ := getP hlt2
          have hcr : decide (c + 1 < r.length) = false := by
            unfold clB at hcl
            rw [hr2] at hcl
            exact hcl
          rw [decide_eq_true (show (e2 : Int) < ((as.map V.ref).length : Int) by omega)]
          refine iteT ⟨_, rfl, _, rfl, a, _, e2, .ref q, rfl, rfl, x1.sqL hP.lst, atI_nat (by rw [List.getElem?_map, hq]; rfl), _, rfl, q, r, c, rfl, x1.sqT (hP.row e2 q r hq hr2), false, by rw [hcr], iteF ?_⟩
          refine ⟨_, rfl, _, rfl, _, _, rfl, rfl, _, rfl, ?_⟩
          by_cases hgt : b < e2
          · rw [decide_eq_true (show (b : Int) < (e2 : Int) by omega)]
            refine iteT ⟨_, rfl, .inl ⟨rfl, _, SqL.of hp1⟩, _, rfl, _, rfl, (by show 2 ≤ sizeLine; decide), fun t nt => ⟨p, ts.map V.ref, .ref t, rfl, rfl, (by rw [upd_ne (ne_of_none hp1 nt)]; exact hp1), hsz, ?_⟩⟩
            refine ⟨_, rfl, e2, 1, rfl, rfl, ?_⟩
            have ntp : t ≠ p := fun z => by rw [z, hp1] at nt; cases nt
            have eR : runsAt (e2 + 1) = runsAt b ++ [(b, e2)] := by
              show ((List.range (e2 + 1)).filter (stB rows c)).map _ = _
              rw [← he, starts_turn hst, if_pos (hi_in 0 b b rfl (by omega)), List.map_append]
              rfl
            refine ⟨e2 + 1, ts ++ [t], some (.int (e2 : Nat)), rfl, by omega, by omega, .inr (by rw [Nat.add_sub_cancel]; exact hnc), ex_new hT (x1.trans (Ex.laid x1.tab nt)) np, ?_, ?_⟩
            · rw [upd_same, List.map_append]; rfl
            · rw [eR]
              refine (pr.keep fun q xs h => ?_).snoc ?_
              · rw [upd_ne (fun z => by rw [z, hp1] at h; cases h), upd_ne (ne_of_none h nt)]; exact h
              · rw [upd_ne ntp, upd_same]
          · rw [decide_eq_false (show ¬ (b : Int) < (e2 : Int) by omega)]
            refine iteF ⟨_, rfl, e2, 1, rfl, rfl, ?_⟩
            have eR : runsAt (e2 + 1) = runsAt b := by
              show ((List.range (e2 + 1)).filter (stB rows c)).map _ = _
              rw [← he, starts_turn hst, if_neg (fun z => by rw [hi_yes z] at he; have := hi_ge rows c (b + 1); omega), List.append_nil]
            refine ⟨e2 + 1, ts, some (.int (e2 : Nat)), rfl, by omega, by omega, .inr (by rw [Nat.add_sub_cancel]; exact hnc), x1, hp1, ?_⟩
            rw [eR]
            exact pr

        · rw [decide_eq_false (show ¬ (e2 : Int) < ((as.map V.ref).length : Int) by omega)]
          refine iteF (iteF ?_)
          refine ⟨_, rfl, _, rfl, _, _, rfl, rfl, _, rfl, ?_⟩
          by_cases hgt : b < e2
          · rw [decide_eq_true (show (b : Int) < (e2 : Int) by omega)]
            refine iteT ⟨_, rfl, .inl ⟨rfl, _, SqL.of hp1⟩, _, rfl, _, rfl, (by show 2 ≤ sizeLine; decide), fun t nt => ⟨p, ts.map V.ref, .ref t, rfl, rfl, (by rw [upd_ne (ne_of_none hp1 nt)]; exact hp1), hsz, ?_⟩⟩
            refine ⟨_, rfl, e2, 1, rfl, rfl, ?_⟩
            have ntp : t ≠ p := fun z => by rw [z, hp1] at nt; cases nt
            have eR : runsAt (e2 + 1) = runsAt b ++ [(b, e2)] := by
              show ((List.range (e2 + 1)).filter (stB rows c)).map _ = _
              rw [← he, starts_turn hst, if_pos (hi_in 0 b b rfl (by omega)), List.map_append]
              rfl
            refine ⟨e2 + 1, ts ++ [t], some (.int (e2 : Nat)), rfl, by omega, by omega, .inr (by rw [Nat.add_sub_cancel]; exact hnc), ex_new hT (x1.trans (Ex.laid x1.tab nt)) np, ?_, ?_⟩
            · rw [upd_same, List.map_append]; rfl
            · rw [eR]
              refine (pr.keep fun q xs h => ?_).snoc ?_
              · rw [upd_ne (fun z => by rw [z, hp1] at h; cases h), upd_ne (ne_of_none h nt)]; exact h
              · rw [upd_ne ntp, upd_same]
          · rw [decide_eq_false (show ¬ (b : Int) < (e2 : Int) by omega)]
            refine iteF ⟨_, rfl, e2, 1, rfl, rfl, ?_⟩
            have eR : runsAt (e2 + 1) = runsAt b := by
              show ((List.range (e2 + 1)).filter (stB rows c)).map _ = _
              rw [← he, starts_turn hst, if_neg (fun z => by rw [hi_yes z] at he; have := hi_ge rows c (b + 1); omega), List.append_nil]
            refine ⟨e2 + 1, ts, some (.int (e2 : Nat)), rfl, by omega, by omega, .inr (by rw [Nat.add_sub_cancel]; exact hnc), x1, hp1, ?_⟩
            rw [eR]
            exact pr
    · rw [decide_eq_false (show ¬ (b : Int) < ((as.map V.ref).length : Int) by omega)]
      refine iteF ⟨_, rfl, ?_⟩
      refine k p ts H1 x1 np hp1 ?_
      have e1 : runsAt b = runsB rows c := by
        show ((List.range b).filter (stB rows c)).map _ = _
        rw [starts_end (by omega)]
        rfl
      rw [← e1]
      exact pr
end
end TG
namespace TG
open PySem L2 Gx
abbrev nilS : Str := ⟨#[]⟩
def cellsB (rows : List (List Str)) (c b e : Nat) : List Str := ((rows.drop b).take (e - b)).map fun r => r.getD c nilS
def longB : List Str → Nat
  | [] => 0
  | z :: zs => max z.length (longB zs)
def widthB (zs : List Str) (gap least : Int) : Int := if least > (longB zs : Int) + gap then least else (longB zs : Int) + gap
def holdB (zs : List Str) (b : Nat) (gap least : Int) : List Int := if least < (longB zs : Int) + gap then ((List.range zs.length).filter fun i => decide ((zs.getD i nilS).length = longB zs)).map fun i => ((b + i : Nat) : Int) else []
theorem long_ge : ∀ {zs : List Str} {z : Str}, z ∈ zs → z.length ≤ longB zs
  | y :: zs, z, h => by
    rcases List.mem_cons.mp h with e | e
    · subst e; exact Nat.le_max_left _ _
    · exact Nat.le_trans (long_ge e) (Nat.le_max_right _ _)
theorem long_in : ∀ {zs : List Str}, zs ≠ [] → ∃ z ∈ zs, z.length = longB zs
  | [z], _ => ⟨z, List.mem_singleton.mpr rfl, by simp [longB]⟩
  | z :: y :: zs, _ => by
    obtain ⟨x, hx, e⟩ := long_in (zs := y :: zs) (by simp)
    by_cases h : longB (y :: zs) ≤ z.length
    · exact ⟨z, List.mem_cons_self, (Nat.max_eq_left h).symm⟩
    · exact ⟨x, List.mem_cons_of_mem _ hx, by rw [e]; exact (Nat.max_eq_right (by omega)).symm⟩
theorem cells_len {rows : List (List Str)} {c b e : Nat} (h : e ≤ rows.length) : (cellsB rows c b e).length = e - b := by
  unfold cellsB
  rw [List.length_map, List.length_take, List.length_drop]
  omega
theorem cells_get {rows : List (List Str)} {c b e i : Nat} (h : b + i < e) {r : List Str} (hr : rows[b + i]? = some r) : (cellsB rows c b e)[i]? = some (r.getD c nilS) := by
  unfold cellsB
  rw [List.getElem?_map, List.getElem?_take_of_lt (by omega), List.getElem?_drop, hr]
  rfl
theorem cells_mem {rows : List (List Str)} {c b e : Nat} (hO : PgOk rows) (hc : ∀ i, b ≤ i → i < e → clB rows c i = true) (he : e ≤ rows.length) {z : Str} (h : z ∈ cellsB rows c b e) : CellOk z := by
  obtain ⟨i, hi, e1⟩ := List.getElem_of_mem h
  rw [cells_len he] at hi
  obtain ⟨r, hr⟩ := getP (xs := rows) (i := b + i) (by omega)
  have q := cells_get (c := c) (b := b) (e := e) (i := i) (by omega) hr
  have hcl := hc (b + i) (by omega) (by omega)
  unfold clB at hcl
  rw [hr] at hcl
  have hcr : c + 1 < r.length := of_decide_eq_true hcl
  rw [List.getElem?_eq_getElem (by rw [cells_len he]; exact hi), e1] at q
  cases q
  have := (hO.rows r (List.mem_of_getElem? hr)).cells (r[c]'(by omega)) (List.getElem_mem _)
  rw [List.getD_eq_getElem?_getD, List.getElem?_eq_getElem (by omega)]
  exact this
theorem cut_mid {xs : List V} {b e : Nat} (h1 : b ≤ e) (h2 : e ≤ xs.length) : cutV xs (some (b : Int)) (some (e : Int)) = (xs.drop b).take (e - b) := by
  unfold cutV
  rw [HT.sIx_nat, HT.sIx_nat, Nat.min_eq_left h2, Nat.min_eq_left (Nat.le_trans h1 h2)]
section
variable {P : Program} {w : World} {K : PySem.W.Frag} {mg : Str → Option Value} {base : Heap} {cs : List (Addr × Addr)}
/-- the told tuple at t, its holders at h -/
def DescAt (H : Hp) (t h : Addr) (c b e : Nat) (zs : List Str) (gap least : Int) : Prop :=
  H t = some (.tup [.int (c : Nat), .int (b : Nat), .int (e : Nat), .int (widthB zs gap least), .bl (rightB zs), .ref h]) ∧ H h = some (.lst ((holdB zs b gap least).map V.int))
def spDesc (K : PySem.W.Frag) (cs : List (Addr × Addr)) : Sp := fun vs H Q _ => ∃ (a st : Addr) (as : List Addr) (rows : List (List Str)) (gap least : Int) (c b e : Nat), vs = [.ref a, .ref st, .int (c : Nat), .int (b : Nat), .int (e : Nat)] ∧ Tabs cs H ∧ PageAt K H a as rows ∧ PgOk rows ∧ StyleAt K H st gap least ∧
  b < e ∧ e ≤ rows.length ∧ (∀ i, b ≤ i → i < e → clB rows c i = true) ∧ ∀ (t h : Addr) (H' : Hp), Ex cs H H' → H t = none → H h = none → DescAt H' t h c b e (cellsB rows c b e) gap least → Q (.ref t) H'
theorem sc_desc : FnScope ["page", "style", "column", "begin", "end", "gap", "least", "cells", "longest", "holders", "row", "at", "cell"] ["page", "style", "column", "begin", "end"] (defScope s_described) := ⟨rfl, rfl, rfl, by decide +kernel, rfl, by decide +kernel, by decide +kernel⟩
theorem ok_desc {f c Pt g : Addr} {fd fdg : FuncData} (T : Txt mg) (F : Fun K "described" "described" s_described f fd) (hc : fd.code = .ref c) (TB : GxR.TabB base mg c Pt) (hm : (c, Pt) ∈ cs)
    (G : FnOk P w K mg base CX0 5 g fdg ["cells"] (spRight K cs)) (kp : PySem.W.keepIn K (.ref g) = true) (bd : Binds K fdg ["cells"] []) (mgg : mg "stands_right" = some (.ref g)) : FnOk P w K mg base CX0 6 f fd ["page", "style", "column", "begin", "end"] (spDesc K cs) := by
  refine fun_okT F hc sc_desc (fun vs H Q E h => ?_) (fun A outer s H vs Q E hr h => ?_)
  · obtain ⟨a, st, as, rows, gap, least, cc, b, e, rfl, _⟩ := h
    rfl
  · obtain ⟨a, st, as, rows, gap, least, cc, b, e, rfl, hT, hP, hO, ⟨hS, _⟩, hbe, hen, hcl, k⟩ := h
    have nd := sc_desc.nd
    refine ⟨_, pss_cons (ps_asg (pv 1) (pg_tup rfl (pgs_cons (pg_name (i := 5) nd rfl (.inl rfl)) (pgs_cons (pg_name (i := 6) nd rfl (.inl rfl)) pgs_nil))))
      (pss_cons (ps_setLc (i := 7) (own := [("row", 10)]) (g := gName 10) rfl nd rfl rfl (sw_true rfl rfl rfl (by decide +kernel)) (pi_list (pe_slice sl_list (pv 0) (po_some (pv 3)) (po_some (pv 4)))) (blkOk_by (own := [("row", 10)]) (N := ["page", "style", "column", "begin", "end", "gap", "least", "cells", "longest", "holders", "row", "at", "cell"]) (sc := defScope s_described) (by decide +kernel))
        (fun _ _ _ _ _ => pg_name (i := 10) nd rfl (Or.inl rfl)) (fun _ _ _ _ _ => pts_nil) (fun _ _ _ _ _ => pe_ix (r := rIxT K) ix_tup (pv 10) (pv 2) (fun _ _ => rfl)))
      (pss_cons (ps_set (i := 8) nd rfl (.inr rfl) (pe_maxG (k := 0) (P := Pt) (hr.mono (by decide)) (by rfl) T.max TB rfl ⟨rfl, rfl, by decide +kernel, by decide +kernel, rfl, rfl⟩ (pi_list (pv 7)) (fun A' code s4 H4 fp hr' => pe_callB call_len_str (by rfl) T.len PySem.boot_len (pa_cons (pv 0) pa_nil)) (fun _ => rfl)))
      (pss_cons (ps_set (i := 9) nd rfl (.inl rfl) (pe_lst pa_nil))
      (pss_cons (ps_if (pt_cmpR op_gt (pe_op op_add (pv 8) (pv 5)) (pv 6) (nomark _))
        (pss_one (ps_setLc (i := 9) (own := [("at", 11), ("cell", 12)]) (g := gTup K 2 (gCons (gName 11) (gCons (gName 12) gNil))) rfl nd rfl rfl (sw_true rfl rfl rfl (by decide +kernel)) (pi_enum (by rfl) T.enum (pa_cons (pv 7) pa_nil)) (blkOk_by (own := [("at", 11), ("cell", 12)]) (N := ["page", "style", "column", "begin", "end", "gap", "least", "cells", "longest", "holders", "row", "at", "cell"]) (sc := defScope s_described) (by decide +kernel))
          (fun _ _ _ _ _ => pg_tup rfl (pgs_cons (pg_name (i := 11) nd rfl (.inl rfl) (.inr rfl)) (pgs_cons (pg_name (i := 12) nd rfl (.inl rfl) (.inr rfl)) pgs_nil))) (fun _ _ _ _ _ => pts_one (pt_cmpR op_eq (pe_callB call_len_str (by rfl) T.len PySem.boot_len (pa_cons (pv 12) pa_nil)) (pv 8) (nomark _))) (fun _ _ _ _ _ => pe_op op_add (pv 3) (pv 11)))) pss_nil)
      (pss_one (ps_ret (pe_tup (pa_cons (pv 2) (pa_cons (pv 3) (pa_cons (pv 4) (pa_cons (pe_callB (call_max2 rfl) (by rfl) T.max (by decide +kernel) (pa_cons (pe_op op_add (pv 8) (pv 5)) (pa_cons (pv 6) pa_nil))) (pa_cons (pe_call G hr (by rfl) mgg kp bd .nil pass0 (pa_cons (pv 7) pa_nil)) (pa_cons (pv 9) pa_nil))))))))))))), ?_⟩
    have hL : cutV (as.map V.ref) (some (b : Int)) (some (e : Int)) = ((as.drop b).take (e - b)).map V.ref := by
      rw [cut_mid (by omega) (by rw [List.length_map, hP.len]; exact hen), ← List.map_drop, ← List.map_take]
    have lc := cells_len (c := cc) (b := b) hen
    have ll := hO.len
    have lsz : (1000 : Nat) < sizeLine := by decide
    have lsV : (sV (cellsB rows cc b e)).length = e - b := by rw [List.length_map, lc]
    have sll : ((as.drop b).take (e - b)).length = e - b := by rw [List.length_take, List.length_drop, hP.len]; omega
    refine ⟨_, rfl, st, _, rfl, hS, rfl, _, _, rfl, _, _, rfl, rfl, ?_⟩
    refine ⟨_, rfl, _, rfl, (b : Int), rfl, _, rfl, (e : Int), rfl, a, _, rfl, hP.lst, fun p np => ?_⟩
    rw [hL]
    refine ⟨p, rfl, ⟨_, SqL.of upd_same⟩, fun D nD => lc_list (xs := ((as.drop b).take (e - b)).map V.ref) (fun i H' => Ex cs H H' ∧ H' p = some (.lst (((as.drop b).take (e - b)).map V.ref)) ∧ H' D = some (.lst (sV ((cellsB rows cc b e).take i)))) ?_ (fun i H' _ x => SqL.of x.2.1) ?_ ?_⟩
    · have x1 := Ex.laid (o := .lst (((as.drop b).take (e - b)).map V.ref)) hT np
      exact ⟨x1.trans (Ex.laid x1.tab nD), by rw [upd_ne (fun z => by rw [← z, upd_same] at nD; cases nD), upd_same], upd_same⟩
    · rintro i v H1 hv ⟨x1, hp, hD⟩
      obtain ⟨q, hq, rfl⟩ := get_map hv
      have hi : i < e - b := by have := (List.getElem?_eq_some_iff.mp hq).1; omega
      rw [List.getElem?_take_of_lt hi, List.getElem?_drop] at hq
      obtain ⟨r, hr2⟩ := getP (xs := rows) (i := b + i) (by omega)
      have hc1 := hcl (b + i) (by omega) (by omega)
      unfold clB at hc1
      rw [hr2] at hc1
      have hcr : cc + 1 < r.length := of_decide_eq_true hc1
      have hz : (sV r)[cc]? = some (V.str (r.getD cc nilS)) := by
        rw [List.getElem?_map, List.getD_eq_getElem?_getD, List.getElem?_eq_getElem (by omega)]; rfl
      have nD0 : H D = none := (Ex.laid (o := .lst (((as.drop b).take (e - b)).map V.ref)) hT np).old _ nD
      refine ⟨rfl, _, rfl, _, rfl, q, sV r, cc, _, rfl, rfl, x1.sqT (hP.row _ q r hq hr2), atI_nat hz, _, hD, ?_, ex_new hT x1 nD0, ?_, ?_⟩
      · rw [List.length_map, List.length_take]; omega
      · rw [upd_ne (fun z => by rw [← z, upd_same] at nD; cases nD)]; exact hp
      · rw [upd_same, List.take_add_one, cells_get (by omega) hr2]
        simp [sV]
    · rintro H1 ⟨x1, hp, hD⟩
      rw [List.length_map, sll, ← lc, List.take_of_length_le (Nat.le_refl _)] at hD
      -- longest
      refine ⟨_, rfl, D, rfl, ⟨_, SqL.of hD⟩, x1.tab _ hm, fun H2 hH2 => ?_⟩
      have x2 := x1.trans (Ex.tabbed x1.tab hm hH2)
      have hD2 := (Ex.tabbed x1.tab hm hH2).lst hD
      refine max_by (w := walk_list (a := D) (xs := sV (cellsB rows cc b e))) (fun i => ((((cellsB rows cc b e).getD i nilS).length : Nat) : Int)) (by omega) (fun _ H' => Ex cs H H' ∧ H' D = some (.lst (sV (cellsB rows cc b e)))) ⟨x2, hD2⟩ (fun i H' _ x => SqL.of x.2) (fun i v H3 H4 hi x y Z hZ => ?_) (fun m H3 x3 hex hall => ?_)
      · obtain ⟨rfl, hv⟩ := y
        obtain ⟨z, hz, rfl⟩ := get_map hv
        refine ⟨_, rfl, z, rfl, line10 (by have := (cells_mem hO hcl hen (List.mem_of_getElem? hz)).len; omega), ?_⟩
        have q := hZ _ x
        have ez : (cellsB rows cc b e).getD i nilS = z := by rw [List.getD_eq_getElem?_getD, hz]; rfl
        rw [ez] at q
        exact q
      · obtain ⟨x3, hD3⟩ := x3
        have em : m = ((longB (cellsB rows cc b e) : Nat) : Int) := by
          obtain ⟨i, hi, e1⟩ := hex
          obtain ⟨z, hz, e2⟩ := long_in (zs := cellsB rows cc b e) (fun q => by rw [q] at lc; simp at lc; omega)
          obtain ⟨j, hj, e3⟩ := List.getElem_of_mem hz
          have h1 := hall j (by omega)
          rw [List.getD_eq_getElem?_getD, List.getElem?_eq_getElem hj, e3] at h1
          have h1' : ((z.length : Nat) : Int) ≤ m := h1
          rw [List.getD_eq_getElem?_getD, List.getElem?_eq_getElem (by omega)] at e1
          have h2 := long_ge (List.getElem_mem (l := cellsB rows cc b e) (show i < _ by omega))
          have e1' : (((cellsB rows cc b e)[i]'(by omega)).length : Int) = m := e1
          omega
        subst em
        refine ⟨small0, fun h0 nh0 => ?_⟩
        have x4 := x3.trans (Ex.laid (o := .lst []) x3.tab nh0)
        have hD4 := (Ex.laid (o := .lst []) x3.tab nh0).lst hD3
        refine ⟨_, rfl, _, rfl, _, _, rfl, rfl, _, rfl, _, _, rfl, rfl, _, rfl, ?_⟩
        by_cases hg : least < ((longB (cellsB rows cc b e) : Nat) : Int) + gap
        · rw [decide_eq_true hg]
          refine iteT ⟨_, rfl, D, _, rfl, SqL.of hD4, fun D2 nD2 => lc_it (walk_enum (xs := sV (cellsB rows cc b e))) (fun i H' => Ex cs H H' ∧ H' D = some (.lst (sV (cellsB rows cc b e))) ∧ H' D2 = some (.lst (((List.range i).filter fun j => decide (((cellsB rows cc b e).getD j nilS).length = longB (cellsB rows cc b e))).map fun j => V.int ((b + j : Nat) : Int)))) ?_ (fun i H' _ x => SqL.of x.2.1) ?_ ?_⟩
          · exact ⟨x4.trans (Ex.laid x4.tab nD2), (Ex.laid x4.tab nD2).lst hD4, upd_same⟩
          · rintro i v H5 H6 hi ⟨x5, hD5, hh⟩ ⟨Tp, v1, u, rfl, hn, rfl, hv, hu⟩
            cases hv
            obtain ⟨z, hz, rfl⟩ := get_map hu
            have xl := Ex.laid (o := .tup [.int (i : Nat), .str z]) x5.tab hn
            have ez : (cellsB rows cc b e).getD i nilS = z := by rw [List.getD_eq_getElem?_getD, hz]; rfl
            have zl := (cells_mem hO hcl hen (List.mem_of_getElem? hz)).len
            refine ⟨Tp, _, rfl, .inl (.inl upd_same), rfl, _, _, rfl, _, _, rfl, rfl, rfl, _, rfl, z, rfl, line10 (by omega), _, rfl, rfl, _, rfl, ?_⟩
            have nD20 := x4.old _ nD2
            by_cases hzl : z.length = longB (cellsB rows cc b e)
            · rw [decide_eq_true (show V.int ((z.length : Nat) : Int) = V.int ((longB (cellsB rows cc b e) : Nat) : Int) by rw [hzl])]
              refine iteT ⟨_, rfl, _, rfl, _, _, rfl, rfl, _, xl.lst hh, ?_, ex_new hT (x5.trans xl) nD20, ?_, ?_⟩
              · have q : ((List.range i).filter fun j => decide (((cellsB rows cc b e).getD j nilS).length = longB (cellsB rows cc b e))).length ≤ (List.range i).length := List.length_filter_le ..
                rw [List.length_range] at q
                rw [List.length_map]
                omega
              · rw [upd_ne (fun z => by rw [← z] at nD2; rw [nD2] at hD4; cases hD4)]
                exact xl.lst hD5
              · have ef : [i].filter (fun j => decide (((cellsB rows cc b e).getD j nilS).length = longB (cellsB rows cc b e))) = [i] := by
                  simp only [List.filter_cons, List.filter_nil, ez, decide_eq_true hzl, if_true]
                rw [upd_same, List.range_succ, List.filter_append, List.map_append, ef, List.map_cons, List.map_nil, Int.natCast_add]
            · rw [decide_eq_false (show ¬ V.int ((z.length : Nat) : Int) = V.int ((longB (cellsB rows cc b e) : Nat) : Int) from fun q => hzl (by injection q with q; exact Int.ofNat.inj q))]
              refine iteF ⟨x5.trans xl, xl.lst hD5, ?_⟩
              rw [List.range_succ, List.filter_append, List.map_append]
              simp only [List.filter_cons, List.filter_nil, ez, decide_eq_false hzl]
              simpa using xl.lst hh
          · rintro H5 ⟨x5, hD5, hh⟩
            have h5 : H5 D2 = some (.lst ((holdB (cellsB rows cc b e) b gap least).map V.int)) := by
              rw [hh]
              unfold holdB
              rw [if_pos hg, List.map_map, lsV, lc]
              rfl
            have nHH := x4.old _ nD2
            refine ⟨_, rfl, _, rfl, _, rfl, _, rfl, _, rfl, _, _, rfl, rfl, _, rfl, _, _, rfl, _, rfl, D, cellsB rows cc b e, rfl, x5.tab, SqL.of hD5, by omega, fun z hz => cells_mem hO hcl hen hz, fun H6 x6 => ⟨_, rfl, (by show 6 ≤ sizeLine; decide), fun t nt => ?_⟩⟩
            have x7 := Ex.laid (o := .tup [.int (cc : Nat), .int (b : Nat), .int (e : Nat), .int (widthB (cellsB rows cc b e) gap least), .bl (rightB (cellsB rows cc b e)), .ref D2]) x6.tab nt
            exact k t D2 _ ((x5.trans x6).trans x7) ((x5.trans x6).old _ nt) nHH ⟨upd_same, (x6.trans x7).lst h5⟩
        · rw [decide_eq_false hg]
          have x5 := x4
          have hD5 := hD4
          have h5 : (upd H3 h0 (.lst [])) h0 = some (.lst ((holdB (cellsB rows cc b e) b gap least).map V.int)) := by
            rw [upd_same]
            unfold holdB
            rw [if_neg hg]
            rfl
          have nHH := x3.old _ nh0
          refine iteF ?_
          refine ⟨_, rfl, _, rfl, _, rfl, _, rfl, _, rfl, _, _, rfl, rfl, _, rfl, _, _, rfl, _, rfl, D, cellsB rows cc b e, rfl, x5.tab, SqL.of hD5, by omega, fun z hz => cells_mem hO hcl hen hz, fun H6 x6 => ⟨_, rfl, (by show 6 ≤ sizeLine; decide), fun t nt => ?_⟩⟩
          have x7 := Ex.laid (o := .tup [.int (cc : Nat), .int (b : Nat), .int (e : Nat), .int (widthB (cellsB rows cc b e) gap least), .bl (rightB (cellsB rows cc b e)), .ref h0]) x6.tab nt
          exact k t h0 _ ((x5.trans x6).trans x7) ((x5.trans x6).old _ nt) nHH ⟨upd_same, (x6.trans x7).lst h5⟩
end
end TG
namespace TG
open PySem L2 Gx
def ofCol (rows : List (List Str)) (c : Nat) : List (Nat × Nat × Nat) := (runsB rows c).map fun p => (c, p.1, p.2)
def entB (rows : List (List Str)) : List (Nat × Nat × Nat) := (List.range 5).flatMap (ofCol rows)
theorem flat_short {α : Type} {F : Nat → List α} {k : Nat} (h : ∀ c, k ≤ c → F c = []) : ∀ d, (List.range (k + d)).flatMap F = (List.range k).flatMap F := by
  intro d
  induction d with
  | zero => rfl
  | succ d ih =>
    rw [← Nat.add_assoc, List.range_succ, List.flatMap_append, ih, List.flatMap_cons, h (k + d) (by omega)]
    simp
theorem col_nil {rows : List (List Str)} {c m : Nat} (h : ∀ r ∈ rows, r.length ≤ m) (hc : m ≤ c + 1) : ofCol rows c = [] := by
  have e : ∀ i, stB rows c i = false := fun i => by
    unfold stB
    have : clB rows c i = false := by
      unfold clB
      cases q : rows[i]? with
      | none => rfl
      | some r => exact decide_eq_false (by have := h r (List.mem_of_getElem? q); omega)
    rw [this]
    rfl
  unfold ofCol runsB
  have : (List.range rows.length).filter (stB rows c) = [] := List.filter_eq_nil_iff.mpr fun i _ => by rw [e i]; exact Bool.false_ne_true
  rw [this]
  rfl
theorem cols_eq {rows : List (List Str)} {m : Nat} (h : ∀ r ∈ rows, r.length ≤ m) (h6 : m ≤ 6) : (List.range m).flatMap (ofCol rows) = entB rows := by
  have e := flat_short (F := ofCol rows) (k := m - 1) fun c hc => col_nil h (by omega)
  have e1 := e (m - (m - 1))
  have e2 := e (5 - (m - 1))
  rw [show m - 1 + (m - (m - 1)) = m by omega] at e1
  rw [show m - 1 + (5 - (m - 1)) = 5 by omega] at e2
  unfold entB
  rw [e1, e2]
theorem run_facts {rows : List (List Str)} {c i : Nat} {p : Nat × Nat} (h : (runsB rows c)[i]? = some p) : p.1 < p.2 ∧ p.2 ≤ rows.length ∧ ∀ j, p.1 ≤ j → j < p.2 → clB rows c j = true := by
  obtain ⟨x, hx, rfl⟩ := get_map h
  have hm := List.mem_filter.mp (List.mem_of_getElem? hx)
  have hst := hm.2
  have hc : clB rows c x = true := by
    unfold stB at hst
    exact (Bool.and_eq_true_iff.mp hst).1
  refine ⟨?_, hi_le (Nat.le_of_lt (cl_lt hc)), fun j h1 h2 => hi_in (j - x) x j (by omega) h2⟩
  show x < hiB rows c x
  rw [hi_yes hc]
  exact hi_ge rows c (x + 1)
/-- the told tuples at ts, their holders at hs -/
structure DescsAt (H : Hp) (ts hs : List Addr) (es : List (Nat × Nat × Nat)) (rows : List (List Str)) (gap least : Int) : Prop where
  len : ts.length = es.length
  len2 : hs.length = es.length
  at_ : ∀ (i : Nat) (t h : Addr) (q : Nat × Nat × Nat), ts[i]? = some t → hs[i]? = some h → es[i]? = some q → DescAt H t h q.1 q.2.1 q.2.2 (cellsB rows q.1 q.2.1 q.2.2) gap least
theorem DescsAt.snoc {H : Hp} {ts hs : List Addr} {es : List (Nat × Nat × Nat)} {rows : List (List Str)} {gap least : Int} {t h : Addr} {q : Nat × Nat × Nat} (x : DescsAt H ts hs es rows gap least) (e : DescAt H t h q.1 q.2.1 q.2.2 (cellsB rows q.1 q.2.1 q.2.2) gap least) : DescsAt H (ts ++ [t]) (hs ++ [h]) (es ++ [q]) rows gap least := by
  refine ⟨by rw [List.length_append, List.length_append, x.len]; rfl, by rw [List.length_append, List.length_append, x.len2]; rfl, fun i u v p h1 h2 h3 => ?_⟩
  by_cases hi : i < ts.length
  · rw [List.getElem?_append_left hi] at h1
    rw [List.getElem?_append_left (by rw [x.len2, ← x.len]; exact hi)] at h2
    rw [List.getElem?_append_left (by rw [← x.len]; exact hi)] at h3
    exact x.at_ i u v p h1 h2 h3
  · have hl := (List.getElem?_eq_some_iff.mp h1).1
    rw [List.length_append, List.length_singleton] at hl
    have e1 : i = ts.length := by omega
    subst e1
    rw [List.getElem?_append_right (Nat.le_refl _), Nat.sub_self] at h1
    rw [x.len, ← x.len2, List.getElem?_append_right (Nat.le_refl _), Nat.sub_self] at h2
    rw [x.len, List.getElem?_append_right (Nat.le_refl _), Nat.sub_self] at h3
    cases h1
    cases h2
    cases h3
    exact e
theorem DescsAt.keep {H H' : Hp} {ts hs : List Addr} {es : List (Nat × Nat × Nat)} {rows : List (List Str)} {gap least : Int} (x : DescsAt H ts hs es rows gap least) (k : ∀ b o, H b = some o → (b ∈ ts ∨ b ∈ hs) → (∀ ps, o ≠ .tbl ps) → H' b = some o) : DescsAt H' ts hs es rows gap least :=
  ⟨x.len, x.len2, fun i t h q h1 h2 h3 => ⟨k _ _ (x.at_ i t h q h1 h2 h3).1 (.inl (List.mem_of_getElem? h1)) (fun ps z => by cases z), k _ _ (x.at_ i t h q h1 h2 h3).2 (.inr (List.mem_of_getElem? h2)) (fun ps z => by cases z)⟩⟩
theorem StyleAt.ex {K : PySem.W.Frag} {cs : List (Addr × Addr)} {H H' : Hp} {a : Addr} {gap least : Int} (p : StyleAt K H a gap least) (e : Ex cs H H') : StyleAt K H' a gap least := ⟨e.sqT p.tup, p.g0, p.g1, p.l0, p.l1⟩
theorem flat_len {α : Type} {F : Nat → List α} {b : Nat} (h : ∀ c, (F c).length ≤ b) : ∀ n, ((List.range n).flatMap F).length ≤ n * b := by
  intro n
  induction n with
  | zero => simp
  | succ n ih =>
    rw [List.range_succ, List.flatMap_append, List.length_append, List.flatMap_cons, List.flatMap_nil, List.append_nil, Nat.succ_mul]
    have := h n
    omega
theorem col_len (rows : List (List Str)) (c : Nat) : (ofCol rows c).length ≤ rows.length := by
  unfold ofCol runsB
  rw [List.length_map, List.length_map]
  have : ((List.range rows.length).filter (stB rows c)).length ≤ (List.range rows.length).length := List.length_filter_le ..
  rw [List.length_range] at this
  exact this
def rLenSeq (K : PySem.W.Frag) : List V → Hp → VK → Prop := fun xs H Q => ∃ p ys, xs = [V.ref p] ∧ (SqL K H p ys ∨ SqT K H p ys) ∧ Q (.int (ys.length : Nat)) H
section
variable {P : Program} {w : World} {K : PySem.W.Frag} {mg : Str → Option Value} {base : Heap} {cs : List (Addr × Addr)}
def spStr (K : PySem.W.Frag) (cs : List (Addr × Addr)) : Sp := fun vs H Q _ => ∃ (a st : Addr) (as : List Addr) (rows : List (List Str)) (gap least : Int), vs = [.ref a, .ref st] ∧ Tabs cs H ∧ PageAt K H a as rows ∧ PgOk rows ∧ StyleAt K H st gap least ∧
  ∀ (r : Addr) (ts hs : List Addr) (H' : Hp), Ex cs H H' → H r = none → (∀ t ∈ ts, H t = none) → (∀ h ∈ hs, H h = none) → H' r = some (.lst (ts.map V.ref)) → DescsAt H' ts hs (entB rows) rows gap least → Q (.ref r) H'
theorem sc_str : FnScope ["page", "style", "told", "column", "begin", "end"] ["page", "style"] (defScope s_stretches) := ⟨rfl, rfl, rfl, by decide +kernel, rfl, by decide +kernel, by decide +kernel⟩
theorem ok_str {f c Pt g1 g2 g3 g4 : Addr} {fd fd1 fd2 fd3 fd4 : FuncData} (T : Txt mg) (F : Fun K "stretches" "stretches" s_stretches f fd) (hc : fd.code = .ref c) (TB : GxR.TabB base mg c Pt) (hm : (c, Pt) ∈ cs)
    (G1 : FnOk P w K mg base CX0 11 g1 fd1 ["page"] (spCheck K cs)) (k1 : PySem.W.keepIn K (.ref g1) = true) (b1 : Binds K fd1 ["page"] []) (m1 : mg "check_page" = some (.ref g1))
    (G2 : FnOk P w K mg base CX0 2 g2 fd2 ["style"] (spStyle K)) (k2 : PySem.W.keepIn K (.ref g2) = true) (b2 : Binds K fd2 ["style"] []) (m2 : mg "check_style" = some (.ref g2))
    (G3 : FnOk P w K mg base CX0 2 g3 fd3 ["page", "column"] (spRuns K cs)) (k3 : PySem.W.keepIn K (.ref g3) = true) (b3 : Binds K fd3 ["page", "column"] []) (m3 : mg "closed_runs" = some (.ref g3))
    (G4 : FnOk P w K mg base CX0 6 g4 fd4 ["page", "style", "column", "begin", "end"] (spDesc K cs)) (k4 : PySem.W.keepIn K (.ref g4) = true) (b4 : Binds K fd4 ["page", "style", "column", "begin", "end"] []) (m4 : mg "described" = some (.ref g4)) :
    FnOk P w K mg base CX0 12 f fd ["page", "style"] (spStr K cs) := by
  refine fun_okT F hc sc_str (fun vs H Q E h => ?_) (fun A outer s H vs Q E hr h => ?_)
  · obtain ⟨a, st, as, rows, gap, least, rfl, _⟩ := h
    rfl
  · obtain ⟨a, st, as, rows, gap, least, rfl, hT, hP, hO, hS, k⟩ := h
    have nd := sc_str.nd
    refine ⟨_, pss_cons (ps_expr (pe_call G1 hr (by rfl) m1 k1 b1 .nil pass0 (pa_cons (pv 0) pa_nil))) (pss_cons (ps_expr (pe_call G2 (hr.mono (by decide)) (by rfl) m2 k2 b2 .nil pass0 (pa_cons (pv 1) pa_nil)))
      (pss_cons (ps_set (i := 2) nd rfl (.inl rfl) (pe_lst pa_nil))
      (pss_cons (ps_for PassesOwn.never rfl (pi_range1 (by rfl) T.range (pa_cons (pe_maxG (k := 0) (P := Pt) (hr.mono (by decide)) (by rfl) T.max TB rfl ⟨rfl, rfl, by decide +kernel, by decide +kernel, rfl, rfl⟩ (pi_list (pv 0)) (fun A' code s4 H4 fp hr' => pe_callB (r := rLenSeq K) call_len_seq (by rfl) T.len PySem.boot_len (pa_cons (pv 0) pa_nil)) (fun _ => rfl)) pa_nil)) (pg_name (i := 3) nd rfl (.inl rfl))
        (pss_one (ps_for PassesOwn.never rfl (pi_list (pe_call G3 (hr.mono (by decide)) (by rfl) m3 k3 b3 .nil pass0 (pa_cons (pv 0) (pa_cons (pv 3) pa_nil)))) (pg_tup rfl (pgs_cons (pg_name (i := 4) nd rfl (.inl rfl)) (pgs_cons (pg_name (i := 5) nd rfl (.inl rfl)) pgs_nil)))
          (pss_one (ps_expr (pe_bm PySem.F.plainAttrs_list PySem.F.slot_list_append PySem.F.type_list_append mt_append (pv 2) (pa_cons (pe_call G4 (hr.mono (by decide)) (by rfl) m4 k4 b4 .nil pass0 (pa_cons (pv 0) (pa_cons (pv 1) (pa_cons (pv 3) (pa_cons (pv 4) (pa_cons (pv 5) pa_nil)))))) pa_nil)))))))
      (pss_one (ps_ret (pv 2)))))), ?_⟩
    have ll := hO.len
    have lp := hO.pos
    have lsz : (1000 : Nat) < sizeLine := by decide
    have las : (as.map V.ref).length = rows.length := by rw [List.length_map, hP.len]
    refine ⟨_, rfl, a, as, rows, rfl, hT, hP, hO, fun H1 x1 => ⟨_, rfl, st, gap, least, rfl, hS.ex x1, small0, fun p np => ?_⟩⟩
    have x2 := x1.trans (Ex.laid (o := .lst []) x1.tab np)
    have np0 := x1.old _ np
    refine ⟨_, rfl, a, rfl, ⟨_, x2.sqL hP.lst⟩, x2.tab _ hm, fun H2 hH2 => ?_⟩
    have xt := Ex.tabbed x2.tab hm hH2
    have x3 := x2.trans xt
    have hp3 : H2 p = some (.lst []) := xt.lst upd_same
    refine max_by (w := walk_list (a := a) (xs := as.map V.ref)) (fun i => (((rows.getD i []).length : Nat) : Int)) (by omega) (fun _ H' => Ex cs H H' ∧ H' p = some (.lst [])) ⟨x3, hp3⟩ (fun i H' _ x => x.1.sqL hP.lst) (fun i v H3 H4 hi x y Z hZ => ?_) (fun m H3 x4 hex hall => ?_)
    · obtain ⟨rfl, hv⟩ := y
      obtain ⟨q, hq, rfl⟩ := get_map hv
      obtain ⟨r, hr2⟩ := getP (xs := rows) (i := i) (by omega)
      refine ⟨_, rfl, q, _, rfl, .inr (x.1.sqT (hP.row i q r hq hr2)), ?_⟩
      have z := hZ _ x
      have er : rows.getD i [] = r := by rw [List.getD_eq_getElem?_getD, hr2]; rfl
      rw [er] at z
      rw [List.length_map]
      exact z
    · obtain ⟨x4, hp4⟩ := x4
      have hmax : ∀ r ∈ rows, r.length ≤ m.toNat := fun r hr2 => by
        obtain ⟨j, hj, e⟩ := List.getElem_of_mem hr2
        have h1 := hall j (by omega)
        rw [List.getD_eq_getElem?_getD, List.getElem?_eq_getElem hj, e] at h1
        have h1' : ((r.length : Nat) : Int) ≤ m := h1
        omega
      have hm6 : m.toNat ≤ 6 := by
        obtain ⟨i, hi, e1⟩ := hex
        rw [List.getD_eq_getElem?_getD, List.getElem?_eq_getElem (by omega)] at e1
        have h2 := (hO.rows _ (List.getElem_mem (l := rows) (show i < _ by omega))).len
        have e1' : ((rows[i]'(by omega)).length : Int) = m := e1
        omega
      have hm0 : 0 ≤ m := by
        obtain ⟨i, hi, e1⟩ := hex
        rw [← e1]
        exact Int.natCast_nonneg _
      refine ⟨m, rfl, by omega, by omega, for_range (n := m.toNat) (fun i σ H' => ∃ (ts hs : List Addr) (c3 c4 c5 : Option V), σ = [some (.ref a), some (.ref st), some (.ref p), c3, c4, c5] ∧ Ex cs H H' ∧ H' p = some (.lst (ts.map V.ref)) ∧ (∀ t ∈ ts, H t = none ∧ t ≠ p) ∧ (∀ h ∈ hs, H h = none ∧ h ≠ p) ∧ DescsAt H' ts hs ((List.range i).flatMap (ofCol rows)) rows gap least)
        ⟨[], [], none, none, none, rfl, x4, hp4, fun t h => by simp at h, fun t h => by simp at h, rfl, rfl, fun i t h q h1 => by simp at h1⟩ ?_ ?_⟩
      · rintro i σ H5 hi ⟨ts, hs, c3, c4, c5, rfl, x5, hp5, ft, fh, ds⟩
        refine ⟨_, rfl, _, rfl, a, as, rows, i, by rw [Int.zero_add]; rfl, x5.tab, hP.ex x5, ll, fun r1 ts1 H6 x6 nr1 hr1 pr1 => ⟨r1, rfl, ⟨_, SqL.of hr1⟩, ?_⟩⟩
        have r1p : r1 ≠ p := fun z => by rw [z, hp5] at nr1; cases nr1
        have hl1 : (ts1.map V.ref).length = (ofCol rows i).length := by unfold ofCol; rw [List.length_map, List.length_map, pr1.len]
        refine for_list (xs := ts1.map V.ref) (fun j σ H' => ∃ (ts hs : List Addr) (c4 c5 : Option V), σ = [some (.ref a), some (.ref st), some (.ref p), some (.int (0 + (i : Nat))), c4, c5] ∧ Ex cs H H' ∧ H' r1 = some (.lst (ts1.map V.ref)) ∧ PairsAt H' ts1 (runsB rows i) ∧ H' p = some (.lst (ts.map V.ref)) ∧ (∀ t ∈ ts, H t = none ∧ t ≠ p) ∧ (∀ h ∈ hs, H h = none ∧ h ≠ p) ∧ DescsAt H' ts hs ((List.range i).flatMap (ofCol rows) ++ (ofCol rows i).take j) rows gap least)
          ⟨ts, hs, c4, c5, rfl, x5.trans x6, hr1, pr1, x6.lst hp5, ft, fh, by rw [List.take_zero, List.append_nil]; exact ds.keep fun b o e _ n => x6.ext b o e n⟩ (fun j σ H' _ ⟨_, _, _, _, _, _, q, _⟩ => SqL.of q) ?_ ?_
        · rintro j v σ H7 hv ⟨ts, hs, c4, c5, rfl, x7, hr7, pr7, hp7, ft, fh, ds⟩
          obtain ⟨t1, ht1, rfl⟩ := get_map hv
          obtain ⟨q, hq⟩ := getP (xs := runsB rows i) (i := j) (by rw [← pr7.len]; exact (List.getElem?_eq_some_iff.mp ht1).1)
          obtain ⟨f1, f2, f3⟩ := run_facts hq
          have hsz : (ts.map V.ref).length < sizeLine := by
            rw [List.length_map, ds.len, List.length_append, List.length_take]
            have q1 := flat_len (F := ofCol rows) (b := 30) (fun c => Nat.le_trans (col_len rows c) ll) i
            have q2 := col_len rows i
            have q3 : min j (ofCol rows i).length ≤ (ofCol rows i).length := Nat.min_le_right _ _
            omega
          refine ⟨t1, _, rfl, .inl (.inl (pr7.at_ j t1 q ht1 hq)), rfl, _, _, rfl, _, _, rfl, rfl, ?_⟩
          refine ⟨_, rfl, .inl ⟨rfl, _, SqL.of hp7⟩, _, rfl, _, rfl, _, rfl, _, rfl, _, rfl, a, st, as, rows, gap, least, i, q.1, q.2, by rw [Int.zero_add]; rfl, x7.tab, hP.ex x7, hO, hS.ex x7, f1, f2, f3, fun t h H8 x8 nt nh hd => ⟨p, _, .ref t, rfl, rfl, x8.lst hp7, hsz, ?_⟩⟩
          have tp : t ≠ p := fun z => by rw [z, hp7] at nt; cases nt
          have hp' : h ≠ p := fun z => by rw [z, hp7] at nh; cases nh
          have x9 := ex_new (o := .lst (ts.map V.ref ++ [.ref t])) hT (x7.trans x8) np0
          refine ⟨ts ++ [t], hs ++ [h], _, _, rfl, x9, by rw [upd_ne r1p]; exact x8.lst hr7, pr7.keep fun b xs e => ?_, by rw [upd_same, List.map_append]; rfl, fun u hu => ?_, fun u hu => ?_, ?_⟩
          · rw [upd_ne (fun z => by rw [z, hp7] at e; cases e)]; exact x8.tup e
          · rcases List.mem_append.mp hu with z | z
            · exact ft u z
            · rw [List.mem_singleton.mp z]; exact ⟨x7.old _ nt, tp⟩
          · rcases List.mem_append.mp hu with z | z
            · exact fh u z
            · rw [List.mem_singleton.mp z]; exact ⟨x7.old _ nh, hp'⟩
          · have ej : (ofCol rows i)[j]? = some (i, q.1, q.2) := by unfold ofCol; rw [List.getElem?_map, hq]; rfl
            rw [List.take_add_one, ej, ← List.append_assoc]
            refine (ds.keep fun b o e m n => ?_).snoc (q := (i, q.1, q.2)) ⟨by rw [upd_ne tp]; exact hd.1, by rw [upd_ne hp']; exact hd.2⟩
            have nb : b ≠ p := by
              rcases m with m | m
              · exact (ft b m).2
              · exact (fh b m).2
            rw [upd_ne nb]; exact x8.ext b o e n
        · rintro σ H7 ⟨ts, hs, c4, c5, rfl, x7, hr7, pr7, hp7, ft, fh, ds⟩
          refine ⟨ts, hs, _, _, _, rfl, x7, hp7, ft, fh, ?_⟩
          rw [hl1, List.take_of_length_le (Nat.le_refl _)] at ds
          rw [List.range_succ, List.flatMap_append, List.flatMap_cons, List.flatMap_nil, List.append_nil]
          exact ds
      · rintro σ H5 ⟨ts, hs, c3, c4, c5, rfl, x5, hp5, ft, fh, ds⟩
        refine ⟨_, rfl, k p ts hs H5 x5 np0 (fun t h => (ft t h).1) (fun t h => (fh t h).1) hp5 ?_⟩
        rw [cols_eq hmax hm6] at ds
        exact ds
end
end TG
namespace TG
open PySem L2 Gx
theorem cl_app (x y : Str) : cl (x ++ y) = cl x ++ cl y := TL.tl_append x y
theorem joinL_nil : ∀ l : List (List Nat), TL.joinL [] l = l.flatten
  | [] => rfl
  | [p] => by simp [TL.joinL]
  | p :: q :: r => by
    show p ++ ([] ++ TL.joinL [] (q :: r)) = _
    rw [joinL_nil (q :: r)]
    rfl
theorem cl_join (ys : List Str) : cl (Txt.join "" ys) = (ys.map cl).flatten := by
  have e : ("" : Str) = SX.S [] := by decide +kernel
  have e2 : ys = (ys.map cl).map SX.S := by
    rw [List.map_map]
    conv => lhs; rw [← List.map_id ys]
    exact List.map_congr_left fun y _ => (SX.S_tl y).symm
  rw [e]
  conv => lhs; rw [e2]
  rw [SX.join_S, joinL_nil]
theorem num_ok {n : Int} (h0 : 0 ≤ n) (h1 : n < 10 ^ 9) : (Str.ofString (toString n)).length ≤ 9 ∧ ∀ c ∈ cl (Str.ofString (toString n)), 48 ≤ c ∧ c ≤ 57 := by
  refine ⟨PyProof.Rows.toString_length_le h0 (by decide) h1, fun c hc => ?_⟩
  obtain ⟨m, rfl⟩ := Int.eq_ofNat_of_zero_le h0
  have hc' : c ∈ (Str.ofString (toString ((m : Nat) : Int))).cps.toList := hc
  rw [PySem.W.KIN.signs_num] at hc'
  obtain ⟨ch, hch, e⟩ := List.mem_map.mp hc'
  have r := PyProof.Rows.digit_range (Nat.isDigit_of_mem_toDigits (by decide) (by decide) hch)
  rw [← e]
  exact r
theorem sg_of {z : Str} (h : (z.cps.toList.all fun c => decide (SgOk c)) = true) : ∀ c ∈ cl z, SgOk c := fun c hc => of_decide_eq_true (List.all_eq_true.mp h c hc)
end TG
namespace TG
open PySem L2 Gx
abbrev everyS : Str := " !\"#$&'()*+,-./0123456789:;<=>?@ABCDEFGHIJKLMNOPQRSTUVWXYZ[\\]^_`abcdefghijklmnopqrstuvwxyz{|}~"
theorem every_ok : ∀ c ∈ cl everyS, SgOk c := sg_of (by decide +kernel)
theorem abc_len : (cl "abcdefghij").length = 10 := by decide +kernel
theorem emp_len : (Str.ofString "").length = 0 := by decide +kernel
theorem every_len : (cl everyS).length = 94 := by decide +kernel
theorem cells_ok {l : List Str} (h : (l.all fun z => decide (z.length ≤ 10) && z.cps.toList.all fun c => decide (SgOk c)) = true) : ∀ z ∈ l, CellOk z := fun z hz => by
  have q := Bool.and_eq_true_iff.mp (List.all_eq_true.mp h z hz)
  exact ⟨of_decide_eq_true q.1, sg_of q.2⟩
/-- one of a written list -/
theorem pick {α : Type} {xs : List α} {i : Int} (h0 : 0 ≤ i) (h1 : i < xs.length) : ∃ x, x ∈ xs ∧ atI xs i = some x := by
  obtain ⟨n, rfl⟩ := Int.eq_ofNat_of_zero_le h0
  have hn : n < xs.length := by have : ((n : Nat) : Int) < xs.length := h1; omega
  exact ⟨xs[n], List.getElem_mem hn, atI_nat (List.getElem?_eq_getElem hn)⟩
theorem iteB {c A B : Prop} [Decidable c] (h1 : A) (h2 : B) : if c then A else B := ite2 (fun _ => h1) fun _ => h2
theorem len_cl (z : Str) : z.length = (cl z).length := by simp [Str.length, cl]
theorem box_new {H : Hp} {b l p : Addr} {o : HO} (x : BoxAt H b l) (n : H p = none) : BoxAt (upd H p o) b l := by
  obtain ⟨ns, st, h1, h2, h3⟩ := x
  exact ⟨ns, st, by rw [upd_ne (ne_of_none h1 n)]; exact h1, by rw [upd_ne (ne_of_none h2 n)]; exact h2, h3⟩
theorem new_ne {H : Hp} {b l p : Addr} (x : BoxAt H b l) (n : H p = none) : p ≠ b ∧ p ≠ l := by
  obtain ⟨ns, st, h1, h2, h3⟩ := x
  exact ⟨(ne_of_none h1 n).symm, (ne_of_none h2 n).symm⟩
theorem box_upd {H : Hp} {b l p : Addr} {o : HO} (x : BoxAt H b l) (h1 : p ≠ b) (h2 : p ≠ l) : BoxAt (upd H p o) b l := by
  obtain ⟨ns, st, g1, g2, g3⟩ := x
  exact ⟨ns, st, by rw [upd_ne h1.symm]; exact g1, by rw [upd_ne h2.symm]; exact g2, g3⟩
theorem kb_new {H : Hp} {b l p : Addr} {o : HO} (n : H p = none) : KB b l H (upd H p o) := fun c u e _ _ => by rw [upd_ne (ne_of_none e n)]; exact e
theorem kb_upd {H H' : Hp} {b l p : Addr} {o : HO} (x : KB b l H H') (n : H p = none) : KB b l H (upd H' p o) := fun c u e h1 h2 => by rw [upd_ne (ne_of_none e n)]; exact x c u e h1 h2
theorem atI_map {α β : Type} {f : α → β} {xs : List α} {i : Int} {x : α} (h : atI xs i = some x) : atI (xs.map f) i = some (f x) := by
  unfold atI at h ⊢
  rw [List.length_map]
  cases e : ixN xs.length i with
  | none => rw [e] at h; cases h
  | some j =>
    rw [e] at h
    have h' : xs[j]? = some x := h
    show (xs.map f)[j]? = some (f x)
    rw [List.getElem?_map, h']
    rfl
/-- a list of single signs at D -/
structure OnesAt (b l : Addr) (H : Hp) (D : Addr) (i : Nat) (H' : Hp) : Prop where
  box : BoxAt H' b l
  keep : KB b l H H'
  nD : H D = none
  db : D ≠ b
  dl : D ≠ l
  ones : ∃ cs : List Nat, cs.length = i ∧ (∀ c ∈ cs, SgOk c) ∧ H' D = some (.lst (sV (cs.map fun c => ⟨#[c]⟩)))
theorem OnesAt.start {b l : Addr} {H H1 : Hp} {D : Addr} (hB : BoxAt H1 b l) (x : KB b l H H1) (n : H1 D = none) (nb : BoxAt H b l) : OnesAt b l H D 0 (upd H1 D (.lst [])) := by
  obtain ⟨d1, d2⟩ := new_ne hB n
  have nD : H D = none := by
    cases e : H D with
    | none => rfl
    | some o => rw [x D o e d1 d2] at n; cases n
  exact ⟨box_new hB n, kb_upd x nD, nD, d1, d2, [], rfl, fun c h => by simp at h, upd_same⟩
theorem OnesAt.more {b l : Addr} {H H1 H2 : Hp} {D : Addr} {i c : Nat} (o : OnesAt b l H D i H1) (hc : SgOk c) (hB : BoxAt H2 b l) (x : KB b l H1 H2) :
    ∃ acc, H2 D = some (.lst acc) ∧ acc.length = i ∧ OnesAt b l H D (i + 1) (upd H2 D (.lst (acc ++ [.str ⟨#[c]⟩]))) := by
  obtain ⟨cs, h1, h2, h3⟩ := o.ones
  refine ⟨_, x D _ h3 o.db o.dl, by rw [List.length_map, List.length_map, h1], box_upd hB o.db o.dl, kb_upd (o.keep.trans x) o.nD, o.nD, o.db, o.dl, cs ++ [c], by rw [List.length_append, h1]; rfl, fun d hd => ?_, ?_⟩
  · rcases List.mem_append.mp hd with h | h
    · exact h2 d h
    · rw [List.mem_singleton.mp h]; exact hc
  · rw [upd_same]
    simp [sV]
theorem OnesAt.done {b l : Addr} {H H1 : Hp} {D : Addr} {i : Nat} (o : OnesAt b l H D i H1) : ∃ ys : List Str, H1 D = some (.lst (ys.map V.str)) ∧ ys.length = i ∧ (ys.map fun y => y.length).sum = i ∧ (i ≤ 10 → CellOk (Txt.join "" ys)) := by
  obtain ⟨cs, h1, h2, h3⟩ := o.ones
  refine ⟨_, h3, by rw [List.length_map, h1], ?_, fun hi => ?_⟩
  · rw [← h1]
    clear h1 h2 h3
    induction cs with
    | nil => rfl
    | cons c cs ih =>
      rw [List.map_cons, List.map_cons, List.sum_cons, ih, List.length_cons]
      show 1 + cs.length = cs.length + 1
      omega
  · have e : cl (Txt.join "" (cs.map fun c => (⟨#[c]⟩ : Str))) = cs := by
      rw [cl_join, List.map_map]
      clear h1 h2 h3
      induction cs with
      | nil => rfl
      | cons c cs ih =>
        rw [List.map_cons, List.flatten_cons, ih]
        rfl
    exact ⟨by rw [len_cl, e, h1]; exact hi, fun c hc => h2 c (by have hc : c ∈ cl _ := hc; rw [e] at hc; exact hc)⟩
abbrev oddL : List Str := ["-", "--1", "1-", "0x", " 1", "1 ", "-0", "007", " ", "   ", "1234567x", "12345678-", "-0000000 1"]
theorem odd_ok : ∀ z ∈ oddL, CellOk z := cells_ok (by decide +kernel)
section
variable {P : Program} {w : World} {K : PySem.W.Frag} {mg : Str → Option Value} {base : Heap} {cs : List (Addr × Addr)}
def spSign : Sp := fun vs H Q _ => ∃ (b l : Addr), vs = [.ref b] ∧ BoxAt H b l ∧ ∀ (c : Nat) (H' : Hp), SgOk c → BoxAt H' b l → KB b l H H' → Q (.str ⟨#[c]⟩) H'
theorem sc_sign : FnScope ["_law_box", "_law_every"] ["_law_box"] (defScope s_sign) := ⟨rfl, rfl, rfl, by decide +kernel, rfl, by decide +kernel, by decide +kernel⟩
theorem ok_sign {f g : Addr} {fd fdg : FuncData} (F : Fun K "_law_sign" "_law_sign" s_sign f fd)
    (G : FnOk P w K mg base CX0 1 g fdg ["_law_box", "_law_many"] spTake) (kp : PySem.W.keepIn K (.ref g) = true) (bd : Binds K fdg ["_law_box", "_law_many"] []) (mgg : mg "_law_take" = some (.ref g)) : FnOk P w K mg base CX0 2 f fd ["_law_box"] spSign := by
  refine F.ok sc_sign (fun vs H Q E h => ?_) (fun cdv A outer s H vs Q E hr h => ?_)
  · obtain ⟨b, l, rfl, _⟩ := h
    rfl
  · obtain ⟨b, l, rfl, hB, k⟩ := h
    have nd := sc_sign.nd
    refine ⟨_, pss_cons (ps_set (i := 1) nd rfl (.inl rfl) pe_str) (pss_one (ps_ret (pe_ix ix_str (pv 1) (pe_call G hr (by rfl) mgg kp bd .nil pass0 (pa_cons (pv 0) (pa_cons pe_int pa_nil))) (fun _ _ => rfl)))), ?_⟩
    refine ⟨_, rfl, _, rfl, b, l, 94, rfl, hB, by decide, by decide, fun r H1 r0 r1 hB1 x1 => ?_⟩
    obtain ⟨c, hc, e⟩ := pick (xs := cl everyS) r0 (by rw [every_len]; exact r1)
    exact ⟨everyS, r, c, rfl, rfl, line10 (by decide +kernel), e, k c H1 (every_ok c hc) hB1 x1⟩
def spCell : Sp := fun vs H Q _ => ∃ (b l : Addr) (sort : Int), vs = [.ref b, .int sort] ∧ BoxAt H b l ∧ ∀ (z : Str) (H' : Hp), CellOk z → BoxAt H' b l → KB b l H H' → Q (.str z) H'
theorem sc_cell : FnScope ["_law_box", "_law_sort", "_law_way", "_law_odd", "_law_many", "_law_k"] ["_law_box", "_law_sort"] (defScope s_cell) := ⟨rfl, rfl, rfl, by decide +kernel, rfl, by decide +kernel, by decide +kernel⟩
abbrev nmCell : List Str := ["_law_box", "_law_sort", "_law_way", "_law_odd", "_law_many", "_law_k"]
theorem ok_cell {f g g2 : Addr} {fd fdg fd2 : FuncData} (T : Txt mg) (F : Fun K "_law_cell" "_law_cell" s_cell f fd)
    (G : FnOk P w K mg base CX0 1 g fdg ["_law_box", "_law_many"] spTake) (kp : PySem.W.keepIn K (.ref g) = true) (bd : Binds K fdg ["_law_box", "_law_many"] []) (mgg : mg "_law_take" = some (.ref g))
    (G2 : FnOk P w K mg base CX0 2 g2 fd2 ["_law_box"] spSign) (kp2 : PySem.W.keepIn K (.ref g2) = true) (bd2 : Binds K fd2 ["_law_box"] []) (mg2 : mg "_law_sign" = some (.ref g2)) : FnOk P w K mg base CX0 3 f fd ["_law_box", "_law_sort"] spCell := by
  refine F.ok sc_cell (fun vs H Q E h => ?_) (fun cdv A outer s H vs Q E hr h => ?_)
  · obtain ⟨b, l, sort, rfl, _⟩ := h
    rfl
  · obtain ⟨b, l, sort, rfl, hB, k⟩ := h
    have nd := sc_cell.nd
    have hr1 : Room 1 _ := hr.mono (by decide)
    refine ⟨_, pss_cons (ps_set (i := 2) nd rfl (.inl rfl) (pe_call G hr1 (by rfl) mgg kp bd .nil pass0 (pa_cons (pv 0) (pa_cons pe_int pa_nil))))
      (pss_cons (ps_if (pt_cmpR op_eq (pv 2) pe_int (nomark _)) (pss_one (ps_ret pe_str)) pss_nil)
      (pss_cons (ps_if (PW.pt (pw_or (pt_cmpR op_eq (pv 2) pe_int (nomark _)) (pw_or1 (PW.pt (pw_and (pt_cmpR op_eq (pv 1) pe_int (nomark _)) (pw_and1 (pt_cmpR op_lt (pv 2) pe_int (nomark _)))))))) (pss_one (ps_ret (pe_op op_add_str (pe_ix ix_list (pe_lst (pa_cons pe_str (pa_cons pe_str pa_nil))) (pe_op op_fdivN (pe_call G hr1 (by rfl) mgg kp bd .nil pass0 (pa_cons (pv 0) (pa_cons pe_int pa_nil))) pe_int) (fun _ _ => rfl)) (pe_callTy call_str_int (by rfl) T.str (by decide +kernel) (pa_cons (pe_call G hr1 (by rfl) mgg kp bd .nil pass0 (pa_cons (pv 0) (pa_cons (pe_ix ix_list (pe_lst (pa_cons pe_int (pa_cons pe_int (pa_cons (pe_op op_pow pe_int pe_int) pa_nil)))) (pe_call G hr1 (by rfl) mgg kp bd .nil pass0 (pa_cons (pv 0) (pa_cons pe_int pa_nil))) (fun _ _ => rfl)) pa_nil))) pa_nil))))) pss_nil)
      (pss_cons (ps_if (pt_cmpR op_eq (pv 2) pe_int (nomark _)) (pss_cons (ps_set (i := 3) nd rfl (.inl rfl) (pe_lst (pa_cons pe_str (pa_cons pe_str (pa_cons pe_str (pa_cons pe_str (pa_cons pe_str (pa_cons pe_str (pa_cons pe_str (pa_cons pe_str (pa_cons pe_str (pa_cons pe_str (pa_cons pe_str (pa_cons pe_str (pa_cons pe_str pa_nil))))))))))))))) (pss_one (ps_ret (pe_ix ix_list (pv 3) (pe_call G hr1 (by rfl) mgg kp bd .nil pass0 (pa_cons (pv 0) (pa_cons pe_int pa_nil))) (fun _ _ => rfl))))) pss_nil)
      (pss_cons (ps_set (i := 4) nd rfl (.inl rfl) (pe_op op_add pe_int (pe_call G hr1 (by rfl) mgg kp bd .nil pass0 (pa_cons (pv 0) (pa_cons (pe_ix ix_list (pe_lst (pa_cons pe_int (pa_cons pe_int pa_nil))) (pe_call G hr1 (by rfl) mgg kp bd .nil pass0 (pa_cons (pv 0) (pa_cons pe_int pa_nil))) (fun _ _ => rfl)) pa_nil)))))
      (pss_cons (ps_if (pt_cmpR op_lt (pv 2) pe_int (nomark _)) (pss_one (ps_ret (pe_join pe_str (pe_lc (own := [("_law_k", 5)]) (g := gName 5) (tt := tYes) rfl nd (pi_range1 (by rfl) T.range (pa_cons (pv 4) pa_nil)) (blkOk_by (own := [("_law_k", 5)]) (N := nmCell) (sc := defScope s_cell) (by decide +kernel)) (fun _ _ _ _ _ => pg_name (i := 5) nd rfl (Or.inl rfl)) (fun _ _ _ _ _ => pts_nil) (fun s1 H1 C1 cl1 fp1 => pe_ix ix_str pe_str (pe_call G hr1 (by rfl) mgg kp bd .nil pass0 (pa_cons (pv 0) (pa_cons pe_int pa_nil))) (fun _ _ => rfl)))))) pss_nil)
      (pss_one (ps_ret (pe_join pe_str (pe_lc (own := [("_law_k", 5)]) (g := gName 5) (tt := tYes) rfl nd (pi_range1 (by rfl) T.range (pa_cons (pv 4) pa_nil)) (blkOk_by (own := [("_law_k", 5)]) (N := nmCell) (sc := defScope s_cell) (by decide +kernel)) (fun _ _ _ _ _ => pg_name (i := 5) nd rfl (Or.inl rfl)) (fun _ _ _ _ _ => pts_nil) (fun s1 H1 C1 cl1 fp1 => pe_call G2 hr (by rfl) mg2 kp2 bd2 .nil pass0 (pa_cons (pv 0) pa_nil))))))))))), ?_⟩
    have szl : (1000 : Nat) < sizeLine := by decide
    refine ⟨_, rfl, b, l, 9, rfl, hB, by decide, by decide, fun way H1 w0 w1 hB1 x1 => ⟨_, rfl, rfl, _, rfl, iteB ?_ ?_⟩⟩
    · exact k _ H1 ⟨by decide +kernel, sg_of (by decide +kernel)⟩ hB1 x1
    refine ⟨_, rfl, rfl, _, rfl, iteB (iteT ?body) ⟨_, rfl, rfl, _, rfl, iteB ⟨_, rfl, _, _, rfl, rfl, _, rfl, iteB ?body ?rest⟩ (iteF ?rest)⟩⟩
    case body =>
      refine ⟨line10 (by decide), fun p np => ⟨_, rfl, b, l, 3, rfl, box_new hB1 np, by decide, by decide, fun r H2 r0 r1 hB2 x2 => ⟨r, 2, rfl, rfl, ⟨by decide, by decide⟩, ?_⟩⟩⟩
      have y2 := (x1.trans (kb_new np)).trans x2
      have e2 : r.fdiv 2 = r / 2 := Int.fdiv_eq_ediv_of_nonneg r (by decide)
      obtain ⟨v, hv, ev⟩ := pick (xs := [(⟨#[]⟩ : Str), ⟨#[45]⟩]) (i := r.fdiv 2) (by omega) (by show r.fdiv 2 < 2; omega)
      obtain ⟨nb, nl⟩ := new_ne hB1 np
      have l1 : ([("" : Str), "-"] : List Str) = [⟨#[]⟩, ⟨#[45]⟩] := by decide +kernel
      have hp2 : H2 p = some (.lst (sV [("" : Str), "-"])) := x2 p _ upd_same nb nl
      refine ⟨p, _, _, .str v, rfl, rfl, SqL.of hp2, by rw [l1]; exact atI_map ev, ?_⟩
      refine ⟨_, rfl, 10, 9, rfl, rfl, ⟨by decide, by decide, by decide⟩, line10 (by decide), fun p2 np2 => ⟨_, rfl, b, l, 3, rfl, box_new hB2 np2, by decide, by decide, fun r2 H4 s0 s1 hB4 x4 => ?_⟩⟩
      obtain ⟨nb2, nl2⟩ := new_ne hB2 np2
      have y4 := (y2.trans (kb_new np2)).trans x4
      have hp4 := x4 p2 _ upd_same nb2 nl2
      obtain ⟨m, hm, em⟩ := pick (xs := [(10 : Int), 1000, 1000000000]) (i := r2) s0 s1
      have hm2 : 0 < m ∧ m ≤ 1000000000 := by
        simp only [List.mem_cons, List.not_mem_nil, or_false] at hm
        omega
      refine ⟨p2, _, _, .int m, rfl, rfl, SqL.of hp4, atI_map (f := V.int) em, b, l, m, rfl, hB4, hm2.1, by omega, fun n H5 n0 n1 hB5 x5 => ⟨n, rfl, ?_, v, _, rfl, rfl, ?_, ?_⟩⟩
      · by_cases hz : n.natAbs = 0
        · rw [hz]; decide
        · refine Nat.lt_of_lt_of_le ((Nat.log2_lt hz).mpr (show n.natAbs < 2 ^ 30 by omega)) (by decide)
      · have h9 := (num_ok n0 (by omega)).1
        have hv1 : v.length ≤ 1 := by
          simp only [List.mem_cons, List.not_mem_nil, or_false] at hv
          rcases hv with rfl | rfl <;> decide
        omega
      · obtain ⟨h9, hd9⟩ := num_ok n0 (by omega)
        have hv1 : v.length ≤ 1 ∧ ∀ c ∈ cl v, SgOk c := by
          simp only [List.mem_cons, List.not_mem_nil, or_false] at hv
          rcases hv with rfl | rfl <;> exact ⟨by decide, sg_of (by decide)⟩
        refine k _ H5 ⟨?_, fun c hc => ?_⟩ hB5 (y4.trans x5)
        · rw [len_cl, cl_app, List.length_append, ← len_cl, ← len_cl]; omega
        · have hc : c ∈ cl (v ++ _) := hc
          rw [cl_app] at hc
          rcases List.mem_append.mp hc with h | h
          · exact hv1.2 c h
          · have := hd9 c h
            unfold SgOk
            omega
    case rest =>
    refine ⟨_, rfl, rfl, _, rfl, iteB ?_ ?_⟩
    · refine ⟨line10 (by decide), fun p np => ⟨_, rfl, _, rfl, b, l, 13, rfl, box_new hB1 np, by decide, by decide, fun r H2 r0 r1 hB2 x2 => ?_⟩⟩
      obtain ⟨nb, nl⟩ := new_ne hB1 np
      have hp2 : H2 p = some (.lst (sV oddL)) := x2 p _ upd_same nb nl
      obtain ⟨v, hv, ev⟩ := pick (xs := oddL) (i := r) r0 r1
      exact ⟨p, _, _, .str v, rfl, rfl, SqL.of hp2, atI_map ev, k v H2 (odd_ok v hv) hB2 ((x1.trans (kb_new np)).trans x2)⟩
    refine ⟨_, rfl, line10 (by decide), fun p np => ⟨_, rfl, b, l, 2, rfl, box_new hB1 np, by decide, by decide, fun r H2 r0 r1 hB2 x2 => ?_⟩⟩
    obtain ⟨nb, nl⟩ := new_ne hB1 np
    have hp2 := x2 p _ upd_same nb nl
    have y2 := (x1.trans (kb_new np)).trans x2
    obtain ⟨m, hm, em⟩ := pick (xs := [(3 : Int), 10]) (i := r) r0 r1
    have hm2 : 0 < m ∧ m ≤ 10 := by
      simp only [List.mem_cons, List.not_mem_nil, or_false] at hm
      omega
    refine ⟨p, _, _, .int m, rfl, rfl, SqL.of hp2, atI_map (f := V.int) em, b, l, m, rfl, hB2, hm2.1, by omega, fun n H3 n0 n1 hB3 x3 => ⟨1, n, rfl, rfl, ?_⟩⟩
    have y3 := y2.trans x3
    refine ⟨_, rfl, _, _, rfl, rfl, _, rfl, iteB ?_ ?_⟩
    · refine ⟨⟨_, rfl⟩, _, rfl, 1 + n, rfl, by omega, by omega, fun D nD => lc_range (n := (1 + n).toNat) (fun i H' => OnesAt b l H D i H') ?_ ?_ ?_⟩
      · exact OnesAt.start hB3 y3 nD hB
      · rintro i H4 hi o
        refine ⟨rfl, _, rfl, b, l, 10, rfl, o.box, by decide, by decide, fun r4 H5 a0 a1 hB5 x5 => ?_⟩
        obtain ⟨c, hc, ec⟩ := pick (xs := cl "abcdefghij") (i := r4) a0 (by rw [abc_len]; exact a1)
        obtain ⟨acc, hacc, hl, o2⟩ := o.more (c := c) (sg_of (z := "abcdefghij") (by decide +kernel) c hc) hB5 x5
        exact ⟨_, r4, c, rfl, rfl, line10 (by decide +kernel), ec, acc, hacc, by omega, o2⟩
      · rintro H4 o
        obtain ⟨ys, hD, h1, h2, h3⟩ := o.done
        exact ⟨_, D, ys, rfl, rfl, .inl (SqL.of hD), by rw [h2, emp_len]; omega, k _ H4 (h3 (by omega)) o.box o.keep⟩
    · refine ⟨⟨_, rfl⟩, _, rfl, 1 + n, rfl, by omega, by omega, fun D nD => lc_range (n := (1 + n).toNat) (fun i H' => OnesAt b l H D i H') ?_ ?_ ?_⟩
      · exact OnesAt.start hB3 y3 nD hB
      · rintro i H4 hi o
        refine ⟨rfl, _, rfl, b, l, rfl, o.box, fun c H5 hc hB5 x5 => ?_⟩
        obtain ⟨acc, hacc, hl, o2⟩ := o.more (c := c) hc hB5 x5
        exact ⟨acc, hacc, by omega, o2⟩
      · rintro H4 o
        obtain ⟨ys, hD, h1, h2, h3⟩ := o.done
        exact ⟨_, D, ys, rfl, rfl, .inl (SqL.of hD), by rw [h2, emp_len]; omega, k _ H4 (h3 (by omega)) o.box o.keep⟩
end
end TG
namespace TG
open PySem L2 Gx
theorem new_old {b l p : Addr} {H H1 : Hp} (x : KB b l H H1) (hB : BoxAt H1 b l) (n : H1 p = none) : H p = none := by
  obtain ⟨d1, d2⟩ := new_ne hB n
  cases e : H p with
  | none => rfl
  | some o => rw [x p o e d1 d2] at n; cases n
/-- a list of cells at D -/
structure StrsAt (b l : Addr) (H : Hp) (D : Addr) (i : Nat) (H' : Hp) : Prop where
  box : BoxAt H' b l
  keep : KB b l H H'
  nD : H D = none
  db : D ≠ b
  dl : D ≠ l
  zsat : ∃ zs : List Str, zs.length = i ∧ (∀ z ∈ zs, CellOk z) ∧ H' D = some (.lst (sV zs))
theorem StrsAt.start {b l : Addr} {H H1 : Hp} {D : Addr} (hB : BoxAt H1 b l) (x : KB b l H H1) (n : H1 D = none) : StrsAt b l H D 0 (upd H1 D (.lst [])) := by
  obtain ⟨d1, d2⟩ := new_ne hB n
  have nD := new_old x hB n
  exact ⟨box_new hB n, kb_upd x nD, nD, d1, d2, [], rfl, fun c h => by simp at h, upd_same⟩
theorem StrsAt.more {b l : Addr} {H H1 H2 : Hp} {D : Addr} {i : Nat} {z : Str} (o : StrsAt b l H D i H1) (hc : CellOk z) (hB : BoxAt H2 b l) (x : KB b l H1 H2) :
    ∃ acc, H2 D = some (.lst acc) ∧ acc.length = i ∧ StrsAt b l H D (i + 1) (upd H2 D (.lst (acc ++ [.str z]))) := by
  obtain ⟨zs, h1, h2, h3⟩ := o.zsat
  refine ⟨_, x D _ h3 o.db o.dl, by rw [List.length_map, h1], box_upd hB o.db o.dl, kb_upd (o.keep.trans x) o.nD, o.nD, o.db, o.dl, zs ++ [z], by rw [List.length_append, h1]; rfl, fun d hd => ?_, ?_⟩
  · rcases List.mem_append.mp hd with h | h
    · exact h2 d h
    · rw [List.mem_singleton.mp h]; exact hc
  · rw [upd_same]
    simp [sV]
/-- a list of numbers at D, below m -/
structure IntsAt (b l : Addr) (H : Hp) (D : Addr) (i : Nat) (H' : Hp) : Prop where
  box : BoxAt H' b l
  keep : KB b l H H'
  nD : H D = none
  db : D ≠ b
  dl : D ≠ l
  isat : ∃ zs : List Int, zs.length = i ∧ H' D = some (.lst (zs.map V.int))
theorem IntsAt.start {b l : Addr} {H H1 : Hp} {D : Addr} (hB : BoxAt H1 b l) (x : KB b l H H1) (n : H1 D = none) : IntsAt b l H D 0 (upd H1 D (.lst [])) := by
  obtain ⟨d1, d2⟩ := new_ne hB n
  have nD := new_old x hB n
  exact ⟨box_new hB n, kb_upd x nD, nD, d1, d2, [], rfl, upd_same⟩
theorem IntsAt.more {b l : Addr} {H H1 H2 : Hp} {D : Addr} {i : Nat} {z : Int} (o : IntsAt b l H D i H1) (hB : BoxAt H2 b l) (x : KB b l H1 H2) :
    ∃ acc, H2 D = some (.lst acc) ∧ acc.length = i ∧ IntsAt b l H D (i + 1) (upd H2 D (.lst (acc ++ [.int z]))) := by
  obtain ⟨zs, h1, h3⟩ := o.isat
  refine ⟨_, x D _ h3 o.db o.dl, by rw [List.length_map, h1], box_upd hB o.db o.dl, kb_upd (o.keep.trans x) o.nD, o.nD, o.db, o.dl, zs ++ [z], by rw [List.length_append, h1]; rfl, ?_⟩
  rw [upd_same]
  simp
theorem ixm1 {n : Nat} : ixN (n + 1) (-1) = some n := by
  unfold ixN
  rw [if_neg (by decide), if_pos (by omega)]
  congr 1
  omega
theorem atm1 {α : Type} {xs : List α} {n : Nat} {v : α} (hl : xs.length = n + 1) (h : xs[n]? = some v) : atI xs (-1) = some v := by
  unfold atI
  rw [hl, ixm1]
  exact h
/-- rows' tuples -/
def RowsP (H : Hp) (as : List Addr) : Prop := ∀ p ∈ as, ∃ r, H p = some (.tup (sV r)) ∧ RowOk r
theorem RowsP.keep {H H' : Hp} {as : List Addr} (x : RowsP H as) (k : ∀ p xs, H p = some (.tup xs) → H' p = some (.tup xs)) : RowsP H' as := fun p hp => by
  obtain ⟨r, h1, h2⟩ := x p hp
  exact ⟨r, k _ _ h1, h2⟩
theorem RowsP.page {H : Hp} : ∀ {as : List Addr}, RowsP H as → ∃ rows : List (List Str), as.length = rows.length ∧ (∀ (i : Nat) (p : Addr) (r : List Str), as[i]? = some p → rows[i]? = some r → H p = some (.tup (sV r))) ∧ ∀ r ∈ rows, RowOk r
  | [], _ => ⟨[], rfl, fun i p r h => by simp at h, fun r h => by simp at h⟩
  | a :: as, x => by
    obtain ⟨rows, h1, h2, h3⟩ := RowsP.page (as := as) fun p hp => x p (List.mem_cons_of_mem _ hp)
    obtain ⟨r, g1, g2⟩ := x a List.mem_cons_self
    refine ⟨r :: rows, by rw [List.length_cons, List.length_cons, h1], fun i p q e1 e2 => ?_, fun q hq => ?_⟩
    · cases i with
      | zero => cases e1; cases e2; exact g1
      | succ i => exact h2 i p q (by simpa using e1) (by simpa using e2)
    · rcases List.mem_cons.mp hq with z | z
      · rw [z]; exact g2
      · exact h3 q z
theorem kb_tup {b l : Addr} {H H' : Hp} (x : KB b l H H') (hB : BoxAt H b l) : ∀ p xs, H p = some (.tup xs) → H' p = some (.tup xs) := fun p xs h => by
  obtain ⟨ns, st, h1, h2, _⟩ := hB
  exact x p _ h (ne_of h h1 fun z => by cases z) (ne_of h h2 fun z => by cases z)
section
variable {P : Program} {w : World} {K : PySem.W.Frag} {mg : Str → Option Value} {base : Heap} {cs : List (Addr × Addr)}
def spRowD : Sp := fun vs H Q _ => ∃ (b l sr : Addr) (ss : List Int) (m : Int), vs = [.ref b, .ref sr, .int m] ∧ BoxAt H b l ∧ H sr = some (.lst (ss.map V.int)) ∧ ss.length = 6 ∧ sr ≠ b ∧ sr ≠ l ∧ 1 ≤ m ∧ m ≤ 6 ∧
  ∀ (p : Addr) (r : List Str) (H' : Hp), BoxAt H' b l → KB b l H H' → H p = none → H' p = some (.tup (sV r)) → RowOk r → Q (.ref p) H'
abbrev nmRow : List Str := ["_law_box", "_law_sorts", "_law_many", "_law_k"]
theorem sc_lrow : FnScope nmRow ["_law_box", "_law_sorts", "_law_many"] (defScope s_row) := ⟨rfl, rfl, rfl, by decide +kernel, rfl, by decide +kernel, by decide +kernel⟩
theorem ok_lrow {f g : Addr} {fd fdg : FuncData} (T : Txt mg) (F : Fun K "_law_row" "_law_row" s_row f fd)
    (G : FnOk P w K mg base CX0 3 g fdg ["_law_box", "_law_sort"] spCell) (kp : PySem.W.keepIn K (.ref g) = true) (bd : Binds K fdg ["_law_box", "_law_sort"] []) (mgg : mg "_law_cell" = some (.ref g)) : FnOk P w K mg base CX0 4 f fd ["_law_box", "_law_sorts", "_law_many"] spRowD := by
  refine F.ok sc_lrow (fun vs H Q E h => ?_) (fun cdv A outer s H vs Q E hr h => ?_)
  · obtain ⟨b, l, sr, ss, m, rfl, _⟩ := h
    rfl
  · obtain ⟨b, l, sr, ss, m, rfl, hB, hs, h6, sb, sl, m1, m6, k⟩ := h
    have nd := sc_lrow.nd
    have szl : (1000 : Nat) < sizeLine := by decide
    refine ⟨_, pss_one (ps_ret (pe_callTy call_tuple_of (by rfl) T.tuple (by decide +kernel) (pa_cons (pe_lc (own := [("_law_k", 3)]) (g := gName 3) (tt := tYes) rfl nd (pi_range1 (by rfl) T.range (pa_cons (pv 2) pa_nil)) (blkOk_by (own := [("_law_k", 3)]) (N := nmRow) (sc := defScope s_row) (by decide +kernel))
          (fun _ _ _ _ _ => pg_name (i := 3) nd rfl (Or.inl rfl)) (fun _ _ _ _ _ => pts_nil) (fun s1 H1 C1 cl1 fp1 => pe_call G hr (by rfl) mgg kp bd .nil pass0 (pa_cons (pv 0) (pa_cons (pe_ix (r := rIxL K) ix_list (pv 1) (pv 3) (fun _ _ => rfl)) pa_nil)))) pa_nil))), ?_⟩
    refine ⟨_, rfl, m, rfl, by omega, by omega, fun D nD => lc_range (n := m.toNat) (fun i H' => StrsAt b l H D i H') (StrsAt.start hB KB.refl nD) ?_ ?_⟩
    · rintro i H1 hi o
      obtain ⟨sv, hsv⟩ := getP (xs := ss) (i := i) (by omega)
      have hs1 := o.keep sr _ hs sb sl
      refine ⟨rfl, _, rfl, _, rfl, _, rfl, sr, _, _, .int sv, rfl, rfl, SqL.of hs1, by rw [Int.zero_add]; exact atI_nat (by rw [List.getElem?_map, hsv]; rfl), b, l, sv, rfl, o.box, fun z H2 hz hB2 x2 => ?_⟩
      obtain ⟨acc, hacc, hl, o2⟩ := o.more hz hB2 x2
      exact ⟨acc, hacc, by omega, o2⟩
    · rintro H1 o
      obtain ⟨zs, h1, h2, h3⟩ := o.zsat
      refine ⟨D, _, rfl, .inl ⟨SqL.of h3, fun p np => k p zs _ (box_new o.box np) (o.keep.trans (kb_new np)) (new_old o.keep o.box np) upd_same ⟨by omega, by omega, h2⟩⟩⟩
abbrev nmPage : List Str := ["_law_box", "_law_most", "_law_sorts", "_law_many", "_law_rows", "_law_turn", "_law_way", "_law_k"]
theorem sc_lpage : FnScope nmPage ["_law_box", "_law_most"] (defScope s_page) := ⟨rfl, rfl, rfl, by decide +kernel, rfl, by decide +kernel, by decide +kernel⟩
def spStyleD : Sp := fun vs H Q _ => ∃ (b l : Addr), vs = [.ref b] ∧ BoxAt H b l ∧
  ∀ (p : Addr) (gap least : Int) (H' : Hp), BoxAt H' b l → KB b l H H' → H p = none → H' p = some (.tup [.int gap, .int least]) → 0 ≤ gap → gap ≤ 4 → 0 ≤ least → least ≤ 12 → Q (.ref p) H'
theorem sc_lstyle : FnScope ["_law_box", "_law_gap"] ["_law_box"] (defScope s_style) := ⟨rfl, rfl, rfl, by decide +kernel, rfl, by decide +kernel, by decide +kernel⟩
theorem ok_lstyle {f g : Addr} {fd fdg : FuncData} (F : Fun K "_law_style" "_law_style" s_style f fd)
    (G : FnOk P w K mg base CX0 1 g fdg ["_law_box", "_law_many"] spTake) (kp : PySem.W.keepIn K (.ref g) = true) (bd : Binds K fdg ["_law_box", "_law_many"] []) (mgg : mg "_law_take" = some (.ref g)) : FnOk P w K mg base CX0 2 f fd ["_law_box"] spStyleD := by
  refine F.ok sc_lstyle (fun vs H Q E h => ?_) (fun cdv A outer s H vs Q E hr h => ?_)
  · obtain ⟨b, l, rfl, _⟩ := h
    rfl
  · obtain ⟨b, l, rfl, hB, k⟩ := h
    have nd := sc_lstyle.nd
    refine ⟨_, pss_cons (ps_set (i := 1) nd rfl (.inl rfl) (pe_ix ix_list (pe_lst (pa_cons (pe_call G hr (by rfl) mgg kp bd .nil pass0 (pa_cons (pv 0) (pa_cons pe_int pa_nil))) (pa_cons pe_int (pa_cons pe_int pa_nil)))) (pe_call G hr (by rfl) mgg kp bd .nil pass0 (pa_cons (pv 0) (pa_cons pe_int pa_nil))) (fun _ _ => rfl)))
      (pss_one (ps_ret (pe_tup (pa_cons (pv 1) (pa_cons (pe_ix ix_list (pe_lst (pa_cons pe_int (pa_cons (pe_call G hr (by rfl) mgg kp bd .nil pass0 (pa_cons (pv 0) (pa_cons pe_int pa_nil))) (pa_cons (pe_call G hr (by rfl) mgg kp bd .nil pass0 (pa_cons (pv 0) (pa_cons pe_int pa_nil))) pa_nil))))
        (pe_call G hr (by rfl) mgg kp bd .nil pass0 (pa_cons (pv 0) (pa_cons pe_int pa_nil))) (fun _ _ => rfl)) pa_nil))))), ?_⟩
    refine ⟨_, rfl, b, l, 5, rfl, hB, by decide, by decide, fun g0 H1 a0 a1 hB1 x1 => ⟨line10 (by show 3 ≤ 1000; decide), fun p np => ⟨_, rfl, b, l, 3, rfl, box_new hB1 np, by decide, by decide, fun r H2 r0 r1 hB2 x2 => ?_⟩⟩⟩
    obtain ⟨nb, nl⟩ := new_ne hB1 np
    have hp := x2 p _ upd_same nb nl
    obtain ⟨gap, hg, eg⟩ := pick (xs := [g0, 1, 2]) (i := r) r0 r1
    have hg2 : 0 ≤ gap ∧ gap ≤ 4 := by
      simp only [List.mem_cons, List.not_mem_nil, or_false] at hg
      omega
    have y2 := (x1.trans (kb_new np)).trans x2
    refine ⟨p, _, _, .int gap, rfl, rfl, SqL.of hp, atI_map (f := V.int) eg, ?_⟩
    refine ⟨_, rfl, _, rfl, b, l, 13, rfl, hB2, by decide, by decide, fun l1 H3 b0 b1 hB3 x3 => ⟨_, rfl, b, l, 13, rfl, hB3, by decide, by decide, fun l2 H4 c0 c1 hB4 x4 => ⟨line10 (by show 3 ≤ 1000; decide), fun q nq => ⟨_, rfl, b, l, 3, rfl, box_new hB4 nq, by decide, by decide, fun r2 H5 s0 s1 hB5 x5 => ?_⟩⟩⟩⟩
    obtain ⟨nb2, nl2⟩ := new_ne hB4 nq
    have hq := x5 q _ upd_same nb2 nl2
    obtain ⟨least, hl, el⟩ := pick (xs := [0, l1, l2]) (i := r2) s0 s1
    have hl2 : 0 ≤ least ∧ least ≤ 12 := by
      simp only [List.mem_cons, List.not_mem_nil, or_false] at hl
      omega
    have y5 := (((y2.trans x3).trans x4).trans (kb_new nq)).trans x5
    exact ⟨q, _, _, .int least, rfl, rfl, SqL.of hq, atI_map (f := V.int) el, line10 (by show 2 ≤ 1000; decide), fun t nt => k t gap least _ (box_new hB5 nt) (y5.trans (kb_new nt)) (new_old y5 hB5 nt) upd_same hg2.1 hg2.2 hl2.1 hl2.2⟩
end
end TG
namespace TG
open PySem L2 Gx
theorem same_trans {H H1 H2 : Hp} (a : Same H H1) (b : Same H1 H2) : Same H H2 := fun c o h => b c o (a c o h)
theorem same_new {H : Hp} {p : Addr} {o : HO} (n : H p = none) : Same H (upd H p o) := fun c u h => by rw [upd_ne (ne_of_none h n)]; exact h
theorem same_upd {H H' : Hp} {p : Addr} {o : HO} (x : Same H H') (n : H p = none) : Same H (upd H' p o) := fun c u h => by rw [upd_ne (ne_of_none h n)]; exact x c u h
theorem same_sqL {K : PySem.W.Frag} {H H' : Hp} {a : Addr} {xs : List V} (e : Same H H') (h : SqL K H a xs) : SqL K H' a xs := by
  rcases h with (z | ⟨o, z⟩) | z
  · exact .inl (.inl (e _ _ z))
  · exact .inl (.inr ⟨o, e _ _ z⟩)
  · exact .inr z
theorem same_sqT {K : PySem.W.Frag} {H H' : Hp} {a : Addr} {xs : List V} (e : Same H H') (h : SqT K H a xs) : SqT K H' a xs := by
  rcases h with (z | ⟨o, z⟩) | z
  · exact .inl (.inl (e _ _ z))
  · exact .inl (.inr ⟨o, e _ _ z⟩)
  · exact .inr z
theorem PageAt.same {K : PySem.W.Frag} {H H' : Hp} {a : Addr} {as : List Addr} {rows : List (List Str)} (p : PageAt K H a as rows) (e : Same H H') : PageAt K H' a as rows :=
  ⟨same_sqL e p.lst, p.len, fun i q r h1 h2 => same_sqT e (p.row i q r h1 h2)⟩
theorem same_old {H H' : Hp} {p : Addr} (e : Same H H') (n : H' p = none) : H p = none := by
  cases q : H p with
  | none => rfl
  | some o => rw [e _ _ q] at n; cases n
theorem canAll_strs : ∀ {zs : List Str}, (∀ z ∈ zs, ∀ c ∈ cl z, SgOk c) → PyData.canLayAll0 (zs.map PyData.str) = true
  | [], _ => rfl
  | z :: zs, h => by
    rw [List.map_cons]
    simp only [PyData.canLayAll0, PyData.canLay0, Bool.and_eq_true]
    refine ⟨?_, canAll_strs fun y hy => h y (List.mem_cons_of_mem _ hy)⟩
    unfold PyData.strOk
    rw [← Array.all_toList, List.all_eq_true]
    intro c hc
    have := h z List.mem_cons_self c hc
    unfold SgOk at this
    exact decide_eq_true (by omega)
theorem depthAll_strs : ∀ zs : List Str, PyData.depthAll (zs.map PyData.str) = 0
  | [] => rfl
  | _ :: r => by simp [PyData.depthAll, PyData.depth, depthAll_strs r]
theorem dp_strs {K : PySem.W.Frag} {H : Hp} : ∀ zs : List Str, DpAll K H (sV zs) (zs.map PyData.str)
  | [] => .nil
  | z :: zs => .cons (.str z) (dp_strs zs)
section
variable {P : Program} {w : World} {K : PySem.W.Frag} {mg : Str → Option Value} {base : Heap} {cs : List (Addr × Addr)}
end
end TG
namespace TG
open PySem L2 Gx
def loB (rows : List (List Str)) (c : Nat) : Nat → Nat
  | 0 => 0
  | i + 1 => if clB rows c i = true then loB rows c i else i + 1
theorem lo_eq {rows : List (List Str)} {c i : Nat} : (loB rows c i = i) ↔ (i = 0 ∨ clB rows c (i - 1) = false) := by
  have le : ∀ j, loB rows c j ≤ j := by
    intro j
    induction j with
    | zero => exact Nat.le_refl _
    | succ j ih =>
      show (if clB rows c j = true then loB rows c j else j + 1) ≤ j + 1
      split
      · omega
      · omega
  cases i with
  | zero => exact ⟨fun _ => .inl rfl, fun _ => rfl⟩
  | succ i =>
    rw [Nat.add_sub_cancel]
    show (if clB rows c i = true then loB rows c i else i + 1) = i + 1 ↔ _
    have := le i
    by_cases h : clB rows c i = true
    · rw [if_pos h, h]
      constructor
      · intro q; omega
      · intro q
        rcases q with q | q
        · omega
        · cases q
    · rw [if_neg h]
      constructor
      · intro _; exact .inr (by cases q : clB rows c i with
          | true => exact absurd q h
          | false => rfl)
      · intro _; rfl
section
variable {P : Program} {w : World} {K : PySem.W.Frag} {mg : Str → Option Value} {base : Heap} {cs : List (Addr × Addr)}
end
end TG
namespace TG
open PySem L2 Gx
theorem at1 {α : Type} {v u : α} {xs : List α} : atI (v :: u :: xs) 1 = some u := atI_nat (j := 1) rfl
theorem st_cl {rows : List (List Str)} {c i : Nat} (h : stB rows c i = true) : clB rows c i = true ∧ loB rows c i = i ∧ hiB rows c (i + 1) = hiB rows c i ∧ i < hiB rows c i ∧ hiB rows c i ≤ rows.length ∧ ∀ j, i ≤ j → j < hiB rows c i → clB rows c j = true := by
  unfold stB at h
  obtain ⟨h1, h2⟩ := Bool.and_eq_true_iff.mp h
  refine ⟨h1, lo_eq.mpr ?_, (hi_yes h1).symm, ?_, hi_le (Nat.le_of_lt (cl_lt h1)), fun j h3 h4 => hi_in (j - i) i j (by omega) h4⟩
  · rcases Bool.or_eq_true_iff.mp h2 with q | q
    · exact .inl (of_decide_eq_true q)
    · exact .inr (by simpa using q)
  · rw [hi_yes h1]; exact hi_ge rows c (i + 1)
end TG
namespace TG
open PySem L2 Gx
theorem lo_le (rows : List (List Str)) (c : Nat) : ∀ i, loB rows c i ≤ i
  | 0 => Nat.le_refl _
  | i + 1 => by
    show (if clB rows c i = true then loB rows c i else i + 1) ≤ i + 1
    have := lo_le rows c i
    split <;> omega
theorem lo_in {rows : List (List Str)} {c : Nat} : ∀ {i j : Nat}, loB rows c i ≤ j → j < i → clB rows c j = true
  | 0, j, _, h => absurd h (Nat.not_lt_zero _)
  | i + 1, j, h1, h2 => by
    have h1 : (if clB rows c i = true then loB rows c i else i + 1) ≤ j := h1
    split at h1
    · rename_i q
      by_cases e : j = i
      · rw [e]; exact q
      · exact lo_in h1 (by omega)
    · omega
theorem st_lo {rows : List (List Str)} {c i : Nat} (h : clB rows c i = true) : stB rows c (loB rows c i) = true := by
  have h1 := lo_le rows c i
  have h2 : clB rows c (loB rows c i) = true := by
    by_cases e : loB rows c i = i
    · rw [e]; exact h
    · exact lo_in (Nat.le_refl _) (by omega)
  unfold stB
  rw [h2, Bool.true_and]
  have h3 : loB rows c i = 0 ∨ clB rows c (loB rows c i - 1) = false := by
    clear h h2 h1
    induction i with
    | zero => exact .inl rfl
    | succ i ih =>
      show (if clB rows c i = true then loB rows c i else i + 1) = 0 ∨ clB rows c ((if clB rows c i = true then loB rows c i else i + 1) - 1) = false
      by_cases q : clB rows c i = true
      · rw [if_pos q]; exact ih
      · rw [if_neg q, Nat.add_sub_cancel]
        exact .inr (by simpa using q)
  rcases h3 with q | q
  · rw [decide_eq_true q, Bool.true_or]
  · rw [q, Bool.not_false, Bool.or_true]
theorem hi_down {rows : List (List Str)} {c x : Nat} : ∀ {d : Nat}, (∀ j, x ≤ j → j < x + d → clB rows c j = true) → hiB rows c x = hiB rows c (x + d)
  | 0, _ => rfl
  | d + 1, h => by
    rw [hi_down (d := d) fun j h1 h2 => h j h1 (by omega), hi_yes (h (x + d) (by omega) (by omega)), Nat.add_assoc]
theorem hi_lo (rows : List (List Str)) (c i : Nat) : hiB rows c (loB rows c i) = hiB rows c i := by
  have h := lo_le rows c i
  obtain ⟨d, hd⟩ := Nat.exists_eq_add_of_le h
  have := hi_down (rows := rows) (c := c) (x := loB rows c i) (d := d) fun j h1 h2 => lo_in h1 (by omega)
  rw [this, ← hd]
theorem lo_same {rows : List (List Str)} {c x : Nat} (h : stB rows c x = true) : ∀ {d : Nat}, x + d < hiB rows c x → loB rows c (x + d) = x
  | 0, _ => (st_cl h).2.1
  | d + 1, hd => by
    show (if clB rows c (x + d) = true then loB rows c (x + d) else x + d + 1) = x
    rw [if_pos ((st_cl h).2.2.2.2.2 (x + d) (by omega) (by omega))]
    exact lo_same h (by omega)
/-- a closed cell's stretch -/
theorem cl_run {rows : List (List Str)} {c i : Nat} (h : clB rows c i = true) : loB rows c i ≤ i ∧ i < hiB rows c i ∧ hiB rows c (i + 1) = hiB rows c i ∧ hiB rows c i ≤ rows.length ∧ ∀ j, loB rows c i ≤ j → j < hiB rows c i → clB rows c j = true := by
  obtain ⟨_, _, _, _, h2, h3⟩ := st_cl (st_lo h)
  rw [hi_lo] at h2 h3
  refine ⟨lo_le rows c i, ?_, (hi_yes h).symm, h2, h3⟩
  rw [hi_yes h]
  exact hi_ge rows c (i + 1)
abbrev covB (i : Nat) (q : Nat × Nat × Nat) : Bool := decide (q.2.1 ≤ i ∧ i < q.2.2)
theorem filter_one {p : Nat → Bool} {a : Nat} (h : ∀ x, p x = decide (x = a)) : ∀ n, (List.range n).filter p = if a < n then [a] else [] := by
  intro n
  induction n with
  | zero => simp
  | succ n ih =>
    rw [List.range_succ, List.filter_append, ih]
    by_cases e : n = a
    · subst e
      rw [if_neg (Nat.lt_irrefl _), if_pos (Nat.lt_succ_self _), List.filter_cons_of_pos (by rw [h]; exact decide_eq_true rfl)]
      rfl
    · rw [List.filter_cons_of_neg (by rw [h, decide_eq_false e]; exact Bool.false_ne_true), List.filter_nil, List.append_nil]
      by_cases q : a < n
      · rw [if_pos q, if_pos (by omega)]
      · rw [if_neg q, if_neg (by omega)]
theorem col_cov (rows : List (List Str)) (c i : Nat) : (ofCol rows c).filter (covB i) = if clB rows c i = true then [(c, loB rows c i, hiB rows c i)] else [] := by
  unfold ofCol runsB
  rw [List.map_map, List.filter_map]
  rw [List.filter_filter]
  by_cases h : clB rows c i = true
  · rw [if_pos h]
    have hp : ∀ x, (((covB i) ∘ ((fun p : Nat × Nat => (c, p.1, p.2)) ∘ fun i => (i, hiB rows c i))) x && stB rows c x) = decide (x = loB rows c i) := fun x => by
      rw [Bool.eq_iff_iff, Bool.and_eq_true, decide_eq_true_eq]
      constructor
      · rintro ⟨h1, h2⟩
        obtain ⟨h3, h4⟩ := of_decide_eq_true h1
        have h3 : x ≤ i := h3
        have h4 : i < hiB rows c x := h4
        obtain ⟨d, hd⟩ := Nat.exists_eq_add_of_le h3
        rw [hd]
        exact (lo_same h2 (by omega)).symm
      · intro e
        subst e
        obtain ⟨h1, h2, _⟩ := cl_run h
        refine ⟨decide_eq_true ⟨h1, ?_⟩, st_lo h⟩
        show i < hiB rows c (loB rows c i)
        rw [hi_lo]; exact h2
    rw [filter_one hp, if_pos (Nat.lt_of_le_of_lt (lo_le rows c i) (cl_lt h))]
    show [(c, loB rows c i, hiB rows c (loB rows c i))] = _
    rw [hi_lo]
  · rw [if_neg h]
    have : List.filter (fun x => ((covB i) ∘ ((fun p : Nat × Nat => (c, p.1, p.2)) ∘ fun i => (i, hiB rows c i))) x && stB rows c x) (List.range rows.length) = [] := by
      refine List.filter_eq_nil_iff.mpr fun x _ q => ?_
      obtain ⟨h1, h2⟩ := Bool.and_eq_true_iff.mp q
      obtain ⟨h3, h4⟩ := of_decide_eq_true h1
      have h3 : x ≤ i := h3
      have h4 : i < hiB rows c x := h4
      exact h ((st_cl h2).2.2.2.2.2 i h3 h4)
    rw [this]
    rfl
/-- how many cells of row i are closed -/
def ncl (rows : List (List Str)) (i : Nat) : Nat := match rows[i]? with
  | some r => r.length - 1
  | none => 0
theorem cl_ncl (rows : List (List Str)) (c i : Nat) : clB rows c i = decide (c < ncl rows i) := by
  unfold clB ncl
  cases rows[i]? with
  | none => exact (decide_eq_false (Nat.not_lt_zero _)).symm
  | some r =>
    show decide (c + 1 < r.length) = decide (c < r.length - 1)
    exact decide_eq_decide.mpr (by omega)
def entOf (rows : List (List Str)) (i c : Nat) : Nat × Nat × Nat := (c, loB rows c i, hiB rows c i)
theorem flat_if {α : Type} {f : Nat → α} {m : Nat} : ∀ d, (List.range d).flatMap (fun c => if c < m then [f c] else []) = (List.range (min d m)).map f := by
  intro d
  induction d with
  | zero => simp
  | succ d ih =>
    rw [List.range_succ, List.flatMap_append, ih, List.flatMap_cons, List.flatMap_nil, List.append_nil]
    by_cases h : d < m
    · rw [if_pos h, Nat.min_eq_left (by omega), Nat.min_eq_left (by omega), List.range_succ, List.map_append]
      rfl
    · rw [if_neg h, List.append_nil, Nat.min_eq_right (by omega), Nat.min_eq_right (by omega)]
theorem ncl_le {rows : List (List Str)} (hO : PgOk rows) (i : Nat) : ncl rows i ≤ 5 := by
  unfold ncl
  cases q : rows[i]? with
  | none => exact Nat.zero_le _
  | some r =>
    have := (hO.rows r (List.mem_of_getElem? q)).len
    show r.length - 1 ≤ 5
    omega
/-- the entries that hold row i, in turn -/
theorem ent_cov {rows : List (List Str)} (hO : PgOk rows) (i : Nat) : (entB rows).filter (covB i) = (List.range (ncl rows i)).map (entOf rows i) := by
  unfold entB
  rw [List.filter_flatMap]
  have e : (fun c => (ofCol rows c).filter (covB i)) = fun c => if c < ncl rows i then [entOf rows i c] else [] := by
    funext c
    rw [col_cov, cl_ncl]
    by_cases h : c < ncl rows i
    · rw [if_pos (decide_eq_true h), if_pos h]; rfl
    · rw [if_neg (by rw [decide_eq_false h]; exact Bool.false_ne_true), if_neg h]
  rw [e, flat_if, Nat.min_eq_right (ncl_le hO i)]
def cntB (rows : List (List Str)) (j i : Nat) : Nat := (((entB rows).take j).filter (covB i)).length
theorem cnt_all {rows : List (List Str)} (hO : PgOk rows) (i : Nat) : cntB rows (entB rows).length i = ncl rows i := by
  unfold cntB
  rw [List.take_of_length_le (Nat.le_refl _), ent_cov hO, List.length_map, List.length_range]
theorem cnt_no {rows : List (List Str)} {j i : Nat} {q : Nat × Nat × Nat} (hq : (entB rows)[j]? = some q) (h : covB i q = false) : cntB rows (j + 1) i = cntB rows j i := by
  unfold cntB
  rw [List.take_add_one, hq, List.filter_append]
  have : List.filter (covB i) (some q).toList = [] := by
    show List.filter (covB i) [q] = []
    rw [List.filter_cons_of_neg (by rw [h]; exact Bool.false_ne_true)]
    rfl
  rw [this, List.append_nil]
theorem cnt_yes {rows : List (List Str)} (hO : PgOk rows) {j i : Nat} {q : Nat × Nat × Nat} (hq : (entB rows)[j]? = some q) (h : covB i q = true) : cntB rows (j + 1) i = cntB rows j i + 1 ∧ q = entOf rows i (cntB rows j i) ∧ cntB rows j i < ncl rows i := by
  have e1 : ((entB rows).take (j + 1)).filter (covB i) = ((entB rows).take j).filter (covB i) ++ [q] := by
    rw [List.take_add_one, hq, List.filter_append]
    congr 1
    show List.filter (covB i) [q] = [q]
    rw [List.filter_cons_of_pos h]
    rfl
  have e2 : (entB rows).filter (covB i) = (((entB rows).take j).filter (covB i) ++ [q]) ++ ((entB rows).drop (j + 1)).filter (covB i) := by
    rw [← e1, ← List.filter_append, List.take_append_drop]
  have e3 : ((entB rows).filter (covB i))[cntB rows j i]? = some q := by
    rw [e2, List.append_assoc]
    have e4 : cntB rows j i = (List.filter (covB i) (List.take j (entB rows))).length := rfl
    rw [e4, List.getElem?_append_right (Nat.le_refl _), Nat.sub_self]
    rfl
  rw [ent_cov hO, List.getElem?_map] at e3
  refine ⟨by unfold cntB; rw [e1, List.length_append]; rfl, ?_⟩
  by_cases hl : cntB rows j i < ncl rows i
  · rw [List.getElem?_eq_getElem (by rw [List.length_range]; exact hl), List.getElem_range] at e3
    exact ⟨(Option.some.inj e3).symm, hl⟩
  · rw [List.getElem?_eq_none (by rw [List.length_range]; omega)] at e3
    cases e3
def wB (rows : List (List Str)) (gap least : Int) (i c : Nat) : Int := widthB (cellsB rows c (loB rows c i) (hiB rows c i)) gap least
def rB (rows : List (List Str)) (i c : Nat) : Bool := rightB (cellsB rows c (loB rows c i) (hiB rows c i))
def leftB (rows : List (List Str)) (gap least : Int) (i : Nat) : Nat → Int
  | 0 => 0
  | c + 1 => leftB rows gap least i c + wB rows gap least i c
def leftsB (rows : List (List Str)) (gap least : Int) (i n : Nat) : List Int := (List.range (n + 1)).map (leftB rows gap least i)
theorem lefts_snoc (rows : List (List Str)) (gap least : Int) (i n : Nat) : leftsB rows gap least i (n + 1) = leftsB rows gap least i n ++ [leftB rows gap least i n + wB rows gap least i n] := by
  unfold leftsB
  rw [List.range_succ (n := n + 1), List.map_append]
  rfl
theorem lefts_len (rows : List (List Str)) (gap least : Int) (i n : Nat) : (leftsB rows gap least i n).length = n + 1 := by
  unfold leftsB
  rw [List.length_map, List.length_range]
theorem lefts_get {rows : List (List Str)} {gap least : Int} {i n c : Nat} (h : c ≤ n) : (leftsB rows gap least i n)[c]? = some (leftB rows gap least i c) := by
  unfold leftsB
  rw [List.getElem?_map, List.getElem?_range (by omega)]
  rfl
end TG
namespace TG
open PySem L2 Gx
section
variable {P : Program} {w : World} {K : PySem.W.Frag} {mg : Str → Option Value} {base : Heap} {cs : List (Addr × Addr)}
end
end TG
namespace TG
open PySem L2 Gx
/-- the list at l holds what is told of the first n closed cells of row i -/
def CellsAt (H : Hp) (rows : List (List Str)) (gap least : Int) (i n : Nat) (l : Addr) : Prop :=
  ∃ ts : List Addr, H l = some (.lst (ts.map V.ref)) ∧ ts.length = n ∧ ∀ (c : Nat) (t : Addr), ts[c]? = some t → H t = some (.tup [.int (wB rows gap least i c), .bl (rB rows i c)])
theorem CellsAt.ext {H H' : Hp} {rows : List (List Str)} {gap least : Int} {i n : Nat} {l : Addr} (x : CellsAt H rows gap least i n l) (e : LamX.ExtN H H') : CellsAt H' rows gap least i n l :=
  let ⟨ts, h1, h2, h3⟩ := x
  ⟨ts, e _ _ h1 (by intro ps z; cases z), h2, fun c t h => e _ _ (h3 c t h) (by intro ps z; cases z)⟩
theorem CellsAt.upd {H : Hp} {rows : List (List Str)} {gap least : Int} {i n : Nat} {l p : Addr} {xs : List V} {o : HO} (x : CellsAt H rows gap least i n l) (hp : H p = some (.lst xs)) (ne : l ≠ p) : CellsAt (upd H p o) rows gap least i n l :=
  let ⟨ts, h1, h2, h3⟩ := x
  ⟨ts, by rw [upd_ne ne]; exact h1, h2, fun c t h => by rw [upd_ne (ne_of (h3 c t h) hp (by intro z; cases z))]; exact h3 c t h⟩
theorem ent_le {rows : List (List Str)} {j : Nat} {q : Nat × Nat × Nat} (h : (entB rows)[j]? = some q) : q.2.1 < q.2.2 ∧ q.2.2 ≤ rows.length := by
  obtain ⟨c, _, h2⟩ := List.mem_flatMap.mp (show q ∈ (List.range 5).flatMap (ofCol rows) from List.mem_of_getElem? h)
  obtain ⟨p, h3, rfl⟩ := List.mem_map.mp h2
  obtain ⟨i, hi, e⟩ := List.getElem_of_mem h3
  obtain ⟨f1, f2, _⟩ := run_facts (i := i) (by rw [List.getElem?_eq_getElem hi, e])
  exact ⟨f1, f2⟩
section
variable {P : Program} {w : World} {K : PySem.W.Frag} {mg : Str → Option Value} {base : Heap} {cs : List (Addr × Addr)}
def spCC (K : PySem.W.Frag) (cs : List (Addr × Addr)) : Sp := fun vs H Q _ => ∃ (a st : Addr) (as : List Addr) (rows : List (List Str)) (gap least : Int), vs = [.ref a, .ref st] ∧ Tabs cs H ∧ PageAt K H a as rows ∧ PgOk rows ∧ StyleAt K H st gap least ∧
  ∀ (r : Addr) (ls : List Addr) (H' : Hp), Ex cs H H' → H r = none → (∀ l ∈ ls, H l = none) → H' r = some (.lst (ls.map V.ref)) → ls.length = rows.length → (∀ (i : Nat) (l : Addr), ls[i]? = some l → CellsAt H' rows gap least i (ncl rows i) l) → Q (.ref r) H'
abbrev nmCC : List Str := ["page", "style", "found", "rows", "column", "begin", "end", "width", "right", "holders", "number", "row"]
theorem sc_cc : FnScope nmCC ["page", "style"] (defScope s_closed_cells) := ⟨rfl, rfl, rfl, by decide +kernel, rfl, by decide +kernel, by decide +kernel⟩
theorem ok_cc {f g : Addr} {fd fdg : FuncData} (T : Txt mg) (F : Fun K "closed_cells" "closed_cells" s_closed_cells f fd)
    (G : FnOk P w K mg base CX0 12 g fdg ["page", "style"] (spStr K cs)) (kp : PySem.W.keepIn K (.ref g) = true) (bd : Binds K fdg ["page", "style"] []) (mgg : mg "stretches" = some (.ref g)) : FnOk P w K mg base CX0 13 f fd ["page", "style"] (spCC K cs) := by
  refine F.ok sc_cc (fun vs H Q E h => ?_) (fun cdv A outer s H vs Q E hr h => ?_)
  · obtain ⟨a, st, as, rows, gap, least, rfl, _⟩ := h
    rfl
  · obtain ⟨a, st, as, rows, gap, least, rfl, hT, hP, hO, hS, k⟩ := h
    have nd := sc_cc.nd
    refine ⟨_, pss_cons (ps_set (i := 2) nd rfl (.inl rfl) (pe_call G hr (by rfl) mgg kp bd .nil pass0 (pa_cons (pv 0) (pa_cons (pv 1) pa_nil))))
      (pss_cons (ps_setLc (i := 3) (own := [("row", 11)]) (g := gName 11) rfl nd rfl rfl (sw_true rfl rfl rfl (by decide +kernel)) (pi_list (pv 0)) (blkOk_by (own := [("row", 11)]) (N := nmCC) (sc := defScope s_closed_cells) (by decide +kernel))
        (fun _ _ _ _ _ => pg_name (i := 11) nd rfl (Or.inl rfl)) (fun _ _ _ _ _ => pts_nil) (fun _ _ _ _ _ => pe_lst pa_nil))
      (pss_cons (ps_for PassesOwn.never rfl (pi_list (pv 2)) (pg_tup rfl (pgs_cons (pg_name (i := 4) nd rfl (.inl rfl)) (pgs_cons (pg_name (i := 5) nd rfl (.inl rfl)) (pgs_cons (pg_name (i := 6) nd rfl (.inl rfl)) (pgs_cons (pg_name (i := 7) nd rfl (.inl rfl)) (pgs_cons (pg_name (i := 8) nd rfl (.inl rfl)) (pgs_cons (pg_name (i := 9) nd rfl (.inl rfl)) pgs_nil)))))))
        (pss_one (ps_for PassesOwn.never rfl (pi_range2 (by rfl) T.range (pa_cons (pv 5) (pa_cons (pv 6) pa_nil))) (pg_name (i := 10) nd rfl (.inl rfl))
          (pss_one (ps_expr (pe_bm PySem.F.plainAttrs_list PySem.F.slot_list_append PySem.F.type_list_append mt_append (pe_ix ix_list (pv 3) (pv 10) (fun _ _ => rfl)) (pa_cons (pe_tup (pa_cons (pv 7) (pa_cons (pv 8) pa_nil))) pa_nil)))))))
      (pss_one (ps_ret (pv 3))))), ?_⟩
    have ll := hO.len
    have szl : (1000 : Nat) < sizeLine := by decide
    have las : (as.map V.ref).length = rows.length := by rw [List.length_map, hP.len]
    refine ⟨_, rfl, _, rfl, a, st, as, rows, gap, least, rfl, hT, hP, hO, hS, fun r ts hs H1 x1 nr nts nhs hr1 ds => ?_⟩
    have hT1 := x1.tab
    refine ⟨_, rfl, a, rfl, ⟨_, x1.sqL hP.lst⟩, fun D nD => lc_list (xs := as.map V.ref) (fun i H' => ∃ ls : List Addr, Ex cs H1 H' ∧ H' D = some (.lst (ls.map V.ref)) ∧ ls.length = i ∧ ls.Nodup ∧ ∀ l ∈ ls, H1 l = none ∧ l ≠ D ∧ H' l = some (.lst []))
      ⟨[], Ex.laid hT1 nD, upd_same, rfl, List.nodup_nil, fun l h => by simp at h⟩ (fun i H' _ ⟨ls, x, _⟩ => x.sqL (x1.sqL hP.lst)) ?_ ?_⟩
    · rintro i v H2 hv ⟨ls, x2, hD, hl, hn, hf⟩
      have hil : i < as.length := by
        have := (List.getElem?_eq_some_iff.mp hv).1
        rw [List.length_map] at this
        exact this
      refine ⟨rfl, small0, fun p np => ⟨_, by rw [upd_ne (ne_of_none hD np)]; exact hD, by rw [List.length_map, hl]; have := hP.len; omega, ls ++ [p], ?_, by rw [upd_same, List.map_append]; rfl, by rw [List.length_append, hl]; rfl, ?_, fun l h => ?_⟩⟩
      · exact ex_new hT1 (x2.trans (Ex.laid x2.tab np)) nD
      · refine List.nodup_append.mpr ⟨hn, by simp, fun u hu v hv e => ?_⟩
        rw [List.mem_singleton.mp hv] at e
        have := (hf u hu).2.2
        rw [e, np] at this
        cases this
      · have pD : p ≠ D := fun z => by rw [z, hD] at np; cases np
        rcases List.mem_append.mp h with z | z
        · obtain ⟨h1, h2, h3⟩ := hf l z
          exact ⟨h1, h2, by rw [upd_ne h2, upd_ne (ne_of_none h3 np)]; exact h3⟩
        · rw [List.mem_singleton.mp z]
          exact ⟨x2.old _ np, pD, by rw [upd_ne pD, upd_same]⟩
    · rintro H2 ⟨ls, x2, hD, hl, hn, hf⟩
      rw [las] at hl
      have hnd : ∀ (i j : Nat) (l m : Addr), ls[i]? = some l → ls[j]? = some m → i ≠ j → l ≠ m := fun i j l m h1 h2 h3 e => by
        subst e
        exact h3 (nd_ix hn h1 h2)
      refine ⟨_, rfl, r, rfl, ⟨_, SqL.of (x2.lst hr1)⟩, for_list (xs := ts.map V.ref) (fun j σ H' => ∃ c4 c5 c6 c7 c8 c9 c10 : Option V, σ = [some (.ref a), some (.ref st), some (.ref r), some (.ref D), c4, c5, c6, c7, c8, c9, c10, none] ∧ Ex cs H1 H' ∧ H' D = some (.lst (ls.map V.ref)) ∧ ∀ (i : Nat) (l : Addr), ls[i]? = some l → CellsAt H' rows gap least i (cntB rows j i) l)
        ⟨_, _, _, _, _, _, _, rfl, x2, hD, fun i l h => ⟨[], (hf l (List.mem_of_getElem? h)).2.2, rfl, fun c t h => by simp at h⟩⟩ (fun j σ H' _ ⟨_, _, _, _, _, _, _, _, x, _⟩ => SqL.of (x.lst hr1)) ?_ ?_⟩
      · rintro j v σ H3 hv ⟨c4, c5, c6, c7, c8, c9, c10, rfl, x3, hD3, hC⟩
        obtain ⟨t, ht, rfl⟩ := get_map hv
        have hjt := (List.getElem?_eq_some_iff.mp ht).1
        obtain ⟨q, hq⟩ := getP (xs := entB rows) (i := j) (by rw [← ds.len]; exact hjt)
        obtain ⟨hh, hhh⟩ := getP (xs := hs) (i := j) (by rw [ds.len2, ← ds.len]; exact hjt)
        have dt := x3.tup (ds.at_ j t hh q ht hhh hq).1
        refine ⟨t, _, rfl, .inl (.inl dt), rfl, _, _, rfl, _, _, rfl, _, _, rfl, _, _, rfl, _, _, rfl, _, _, rfl, rfl, ?_⟩
        refine ⟨_, rfl, _, rfl, (q.2.1 : Int), (q.2.2 : Int), rfl, ?_⟩
        obtain ⟨q1, q2⟩ := ent_le hq
        refine ⟨by omega, for_range (lo := (q.2.1 : Int)) (n := ((q.2.2 : Int) - (q.2.1 : Int)).toNat) (fun k σ H' => ∃ c10 : Option V, σ = [some (.ref a), some (.ref st), some (.ref r), some (.ref D), some (.int (q.1 : Nat)), some (.int (q.2.1 : Nat)), some (.int (q.2.2 : Nat)), some (.int (widthB (cellsB rows q.1 q.2.1 q.2.2) gap least)), some (.bl (rightB (cellsB rows q.1 q.2.1 q.2.2))), some (.ref hh), c10, none] ∧ Ex cs H1 H' ∧ H' D = some (.lst (ls.map V.ref)) ∧
          ∀ (i : Nat) (l : Addr), ls[i]? = some l → CellsAt H' rows gap least i (cntB rows j i + if q.2.1 ≤ i ∧ i < q.2.1 + k then 1 else 0) l)
          ⟨_, rfl, x3, hD3, fun i l h => by rw [if_neg (by omega)]; exact hC i l h⟩ ?_ ?_⟩
        · rintro k σ H4 hk ⟨c10, rfl, x4, hD4, hC4⟩
          have hx : q.2.1 + k < q.2.2 := by omega
          obtain ⟨l, hl1⟩ := getP (xs := ls) (i := q.2.1 + k) (by omega)
          obtain ⟨hln, hlD, _⟩ := hf l (List.mem_of_getElem? hl1)
          have hcl := hC4 _ l hl1
          rw [if_neg (by omega), Nat.add_zero] at hcl
          obtain ⟨us, u1, u2, u3⟩ := hcl
          have hcov : covB (q.2.1 + k) q = true := decide_eq_true ⟨by omega, hx⟩
          obtain ⟨v1, v2, v3⟩ := cnt_yes hO hq hcov
          have v4 := ncl_le hO (q.2.1 + k)
          refine ⟨_, rfl, _, rfl, D, _, ((q.2.1 + k : Nat) : Int), .ref l, rfl, rfl, SqL.of hD4, atI_nat (by rw [List.getElem?_map, hl1]; rfl), .inl ⟨rfl, _, SqL.of u1⟩, _, rfl, _, rfl, line10 (by show 2 ≤ 1000; decide), fun t0 nt0 => ⟨l, us.map V.ref, .ref t0, rfl, rfl, by rw [upd_ne (ne_of_none u1 nt0)]; exact u1, by rw [List.length_map, u2]; omega, ?_⟩⟩
          have x5 := Ex.laid (o := .tup [.int (widthB (cellsB rows q.1 q.2.1 q.2.2) gap least), .bl (rightB (cellsB rows q.1 q.2.1 q.2.2))]) x4.tab nt0
          have lt0 : l ≠ t0 := ne_of_none u1 nt0
          have u1' := x5.lst u1
          refine ⟨_, rfl, ex_new hT1 (x4.trans x5) hln, by rw [upd_ne hlD.symm]; exact x5.lst hD4, fun i m h => ?_⟩
          by_cases e : i = q.2.1 + k
          · subst e
            rw [hl1] at h
            cases h
            rw [if_pos (by omega)]
            refine ⟨us ++ [t0], by rw [upd_same, List.map_append]; rfl, by rw [List.length_append, u2]; rfl, fun c t h => ?_⟩
            by_cases hc : c < us.length
            · rw [List.getElem?_append_left hc] at h
              have := x5.tup (u3 c t h)
              rw [upd_ne (ne_of this u1' (by intro z; cases z))]
              exact this
            · have hl := (List.getElem?_eq_some_iff.mp h).1
              rw [List.length_append, List.length_singleton] at hl
              have ec : c = us.length := by omega
              subst ec
              rw [List.getElem?_append_right (Nat.le_refl _), Nat.sub_self] at h
              cases h
              rw [upd_ne lt0.symm, upd_same, u2]
              have e1 : q.1 = cntB rows j (q.2.1 + k) := congrArg (fun z : Nat × Nat × Nat => z.1) v2
              have e2 : q.2.1 = loB rows (cntB rows j (q.2.1 + k)) (q.2.1 + k) := congrArg (fun z : Nat × Nat × Nat => z.2.1) v2
              have e3 : q.2.2 = hiB rows (cntB rows j (q.2.1 + k)) (q.2.1 + k) := congrArg (fun z : Nat × Nat × Nat => z.2.2) v2
              unfold wB rB
              rw [← e2, ← e3, ← e1]
          · have hne := hnd _ _ _ _ h hl1 e
            have hm := (hC4 i m h).ext x5.ext
            have ee : (if q.2.1 ≤ i ∧ i < q.2.1 + (k + 1) then 1 else 0) = (if q.2.1 ≤ i ∧ i < q.2.1 + k then 1 else 0) := by
              by_cases z : q.2.1 ≤ i ∧ i < q.2.1 + k
              · rw [if_pos z, if_pos (by omega)]
              · rw [if_neg z, if_neg (by omega)]
            rw [ee]
            exact hm.upd u1' hne
        · rintro σ H4 ⟨c10, rfl, x4, hD4, hC4⟩
          refine ⟨_, _, _, _, _, _, _, rfl, x4, hD4, fun i l h => ?_⟩
          have := hC4 i l h
          by_cases z : q.2.1 ≤ i ∧ i < q.2.2
          · rw [if_pos (by omega)] at this
            rw [(cnt_yes hO hq (decide_eq_true z)).1]
            exact this
          · rw [if_neg (by omega)] at this
            rw [cnt_no hq (decide_eq_false z)]
            exact this
      · rintro σ H3 ⟨c4, c5, c6, c7, c8, c9, c10, rfl, x3, hD3, hC⟩
        refine ⟨_, rfl, k D ls H3 (x1.trans x3) (x1.old _ nD) (fun l h => x1.old _ (hf l h).1) hD3 hl fun i l h => ?_⟩
        have := hC i l h
        rw [List.length_map, ds.len, cnt_all hO] at this
        exact this
end
end TG
namespace TG
open PySem L2 Gx
theorem at_last {α : Type} {xs : List α} {x : α} : atI (xs ++ [x]) (-1) = some x := by
  unfold atI ixN
  rw [if_neg (by omega), List.length_append, List.length_singleton, if_pos (by omega)]
  show (xs ++ [x])[((-1 : Int) + ((xs.length + 1 : Nat) : Int)).toNat]? = some x
  rw [show ((-1 : Int) + ((xs.length + 1 : Nat) : Int)).toNat = xs.length by omega, List.getElem?_append_right (Nat.le_refl _), Nat.sub_self]
  rfl
theorem lefts_last (rows : List (List Str)) (gap least : Int) (i : Nat) : ∀ n, ∃ xs, leftsB rows gap least i n = xs ++ [leftB rows gap least i n]
  | 0 => ⟨[], rfl⟩
  | n + 1 => ⟨leftsB rows gap least i n, lefts_snoc rows gap least i n⟩
theorem lefts_at (rows : List (List Str)) (gap least : Int) (i n : Nat) : atI ((leftsB rows gap least i n).map V.int) (-1) = some (V.int (leftB rows gap least i n)) := by
  obtain ⟨xs, e⟩ := lefts_last rows gap least i n
  rw [e, List.map_append]
  exact at_last
/-- the list at r holds lists of numbers, f tells them -/
structure ToldAt (H : Hp) (r : Addr) (es : List Addr) (f : Nat → List Int) (n : Nat) : Prop where
  lst : H r = some (.lst (es.map V.ref))
  len : es.length = n
  nd : es.Nodup
  at_ : ∀ (i : Nat) (e : Addr), es[i]? = some e → H e = some (.lst ((f i).map V.int))
theorem ToldAt.ext {H H' : Hp} {r : Addr} {es : List Addr} {f : Nat → List Int} {n : Nat} (t : ToldAt H r es f n) (x : LamX.ExtN H H') : ToldAt H' r es f n :=
  ⟨x _ _ t.lst (by intro ps z; cases z), t.len, t.nd, fun i e h => x _ _ (t.at_ i e h) (by intro ps z; cases z)⟩
theorem tabs_ext {cs : List (Addr × Addr)} {H H' : Hp} (t : Tabs cs H) (x : Same H H') : Tabs cs H' := fun p hp => let ⟨ps, h1, h2⟩ := t p hp; ⟨ps, x _ _ h1, h2⟩
theorem same_ext {H H' : Hp} (x : Same H H') : LamX.ExtN H H' := fun b o e _ => x b o e
theorem ex_same {cs : List (Addr × Addr)} {H H' : Hp} (t : Tabs cs H) (x : Same H H') : Ex cs H H' := ⟨same_ext x, tabs_ext t x, fun _ n => same_old x n, fun b o e _ => x b o e⟩
theorem ToldAt.add {H H' : Hp} {r : Addr} {es : List Addr} {f : Nat → List Int} {n : Nat} {e : Addr} (t : ToldAt H r es f n) (x : LamX.ExtN H H') (he : H e = none) (h' : H' e = some (.lst ((f n).map V.int))) (hr : r ∉ es) :
    ToldAt (upd H' r (.lst (es.map V.ref ++ [.ref e]))) r (es ++ [e]) f (n + 1) := by
  refine ⟨by rw [upd_same, List.map_append]; rfl, by rw [List.length_append, t.len]; rfl, ?_, fun i u h => ?_⟩
  · refine List.nodup_append.mpr ⟨t.nd, by simp, fun u hu v hv q => ?_⟩
    rw [List.mem_singleton.mp hv] at q
    obtain ⟨i, hi, e1⟩ := List.getElem_of_mem hu
    have := t.at_ i u (by rw [List.getElem?_eq_getElem hi, e1])
    rw [q, he] at this
    cases this
  · have re : e ≠ r := fun z => by rw [z, t.lst] at he; cases he
    by_cases hi : i < es.length
    · rw [List.getElem?_append_left hi] at h
      rw [upd_ne (fun z => hr (by rw [← z]; exact List.mem_of_getElem? h))]
      exact x _ _ (t.at_ i u h) (by intro ps z; cases z)
    · have hl := (List.getElem?_eq_some_iff.mp h).1
      rw [List.length_append, List.length_singleton] at hl
      have e1 : i = es.length := by omega
      subst e1
      rw [List.getElem?_append_right (Nat.le_refl _), Nat.sub_self] at h
      cases h
      rw [upd_ne re, h', t.len]
section
variable {P : Program} {w : World} {K : PySem.W.Frag} {mg : Str → Option Value} {base : Heap} {cs : List (Addr × Addr)}
def spLE : Sp := fun vs H Q _ => ∃ (l : Addr) (rows : List (List Str)) (gap least : Int) (i n : Nat), vs = [.ref l] ∧ CellsAt H rows gap least i n l ∧ n ≤ 5 ∧
  ∀ (p : Addr) (H' : Hp), Same H H' → H p = none → H' p = some (.lst ((leftsB rows gap least i n).map V.int)) → Q (.ref p) H'
abbrev nmLE : List Str := ["closed", "ends", "width", "right"]
theorem sc_le : FnScope nmLE ["closed"] (defScope s_left_ends) := ⟨rfl, rfl, rfl, by decide +kernel, rfl, by decide +kernel, by decide +kernel⟩
theorem ok_le {f : Addr} {fd : FuncData} (F : Fun K "left_ends" "left_ends" s_left_ends f fd) : FnOk P w K mg base CX0 1 f fd ["closed"] spLE := by
  refine F.ok sc_le (fun vs H Q E h => ?_) (fun cdv A outer s H vs Q E hr h => ?_)
  · obtain ⟨l, rows, gap, least, i, n, rfl, _⟩ := h
    rfl
  · obtain ⟨l, rows, gap, least, i, n, rfl, ⟨ts, h1, h2, h3⟩, n5, k⟩ := h
    have nd := sc_le.nd
    refine ⟨_, pss_cons (ps_set (i := 1) nd rfl (.inl rfl) (pe_lst (pa_cons pe_int pa_nil)))
      (pss_cons (ps_for PassesOwn.never rfl (pi_list (pv 0)) (pg_tup rfl (pgs_cons (pg_name (i := 2) nd rfl (.inl rfl)) (pgs_cons (pg_name (i := 3) nd rfl (.inl rfl)) pgs_nil)))
        (pss_one (ps_expr (pe_bm PySem.F.plainAttrs_list PySem.F.slot_list_append PySem.F.type_list_append mt_append (pv 1) (pa_cons (pe_op op_add (pe_ix ix_list (pv 1) (pe_un un_neg pe_int) (fun _ _ => rfl)) (pv 2)) pa_nil)))))
      (pss_one (ps_ret (pv 1)))), ?_⟩
    have szl : (1000 : Nat) < sizeLine := by decide
    refine ⟨line10 (by show 1 ≤ 1000; decide), fun p np => ⟨_, rfl, l, rfl, ⟨_, SqL.of (by rw [upd_ne (ne_of_none h1 np)]; exact h1)⟩, for_list (xs := ts.map V.ref) (fun j σ H' => ∃ c2 c3 : Option V, σ = [some (.ref l), some (.ref p), c2, c3] ∧ Same H H' ∧ H' p = some (.lst ((leftsB rows gap least i j).map V.int)))
      ⟨_, _, rfl, same_new np, upd_same⟩ (fun j σ H' _ ⟨_, _, _, x, _⟩ => SqL.of (x _ _ h1)) ?_ ?_⟩⟩
    · rintro j v σ H1 hv ⟨c2, c3, rfl, x1, hp⟩
      obtain ⟨t, ht, rfl⟩ := get_map hv
      have hj := (List.getElem?_eq_some_iff.mp ht).1
      refine ⟨t, _, rfl, .inl (.inl (x1 _ _ (h3 j t ht))), rfl, _, _, rfl, _, _, rfl, rfl, ?_⟩
      refine ⟨_, rfl, .inl ⟨rfl, _, SqL.of hp⟩, _, rfl, 1, rfl, p, _, -1, _, rfl, rfl, SqL.of hp, lefts_at .., _, rfl, _, _, rfl, rfl, p, _, _, rfl, rfl, hp, by rw [List.length_map, lefts_len]; omega, ⟨_, _, rfl, same_upd x1 np, ?_⟩⟩
      rw [upd_same, lefts_snoc, List.map_append]
      rfl
    · rintro σ H1 ⟨c2, c3, rfl, x1, hp⟩
      rw [List.length_map, h2] at hp
      exact ⟨_, rfl, k p H1 x1 np hp⟩
/-- a list of lists of numbers, a row each -/
def spTold (K : PySem.W.Frag) (cs : List (Addr × Addr)) (f : List (List Str) → Int → Int → Nat → List Int) : Sp := fun vs H Q _ => ∃ (a st : Addr) (as : List Addr) (rows : List (List Str)) (gap least : Int), vs = [.ref a, .ref st] ∧ Tabs cs H ∧ PageAt K H a as rows ∧ PgOk rows ∧ StyleAt K H st gap least ∧
  ∀ (r : Addr) (es : List Addr) (H' : Hp), Ex cs H H' → H r = none → (∀ e ∈ es, H e = none ∧ e ≠ r) → ToldAt H' r es (f rows gap least) rows.length → Q (.ref r) H'
end
end TG
namespace TG
open PySem L2 Gx
def lenC (rows : List (List Str)) (i c : Nat) : Int := (((rows.getD i []).getD c nilS).length : Nat)
/-- the begins of row i when the first j closed cells have been looked at -/
def begC (rows : List (List Str)) (gap least : Int) (i j c : Nat) : Int := if c < j ∧ rB rows i c = true then leftB rows gap least i (c + 1) - gap - lenC rows i c else leftB rows gap least i c
def begsTo (rows : List (List Str)) (gap least : Int) (i j : Nat) : List Int := (List.range (ncl rows i + 1)).map (begC rows gap least i j)
def begsR (rows : List (List Str)) (gap least : Int) (i : Nat) : List Int := begsTo rows gap least i (ncl rows i)
theorem begs_zero (rows : List (List Str)) (gap least : Int) (i : Nat) : begsTo rows gap least i 0 = leftsB rows gap least i (ncl rows i) := by
  unfold begsTo leftsB
  refine List.map_congr_left fun c _ => ?_
  unfold begC
  rw [if_neg (by omega)]
theorem begs_len (rows : List (List Str)) (gap least : Int) (i j : Nat) : (begsTo rows gap least i j).length = ncl rows i + 1 := by
  unfold begsTo
  rw [List.length_map, List.length_range]
theorem begs_no {rows : List (List Str)} {gap least : Int} {i j : Nat} (h : rB rows i j = false) : begsTo rows gap least i (j + 1) = begsTo rows gap least i j := by
  unfold begsTo
  refine List.map_congr_left fun c _ => ?_
  unfold begC
  by_cases e : c = j
  · subst e
    rw [if_neg (fun z => by rw [h] at z; cases z.2), if_neg (by omega)]
  · by_cases q : c < j ∧ rB rows i c = true
    · rw [if_pos q, if_pos ⟨by omega, q.2⟩]
    · rw [if_neg q, if_neg (fun z => q ⟨by omega, z.2⟩)]
theorem begs_yes {rows : List (List Str)} {gap least : Int} {i j : Nat} (hj : j < ncl rows i) (h : rB rows i j = true) : (begsTo rows gap least i j).set j (leftB rows gap least i (j + 1) - gap - lenC rows i j) = begsTo rows gap least i (j + 1) := by
  apply List.ext_getElem?
  intro c
  rw [List.getElem?_set]
  have e1 : ∀ j, (begsTo rows gap least i j)[c]? = if c < ncl rows i + 1 then some (begC rows gap least i j c) else none := fun j => by
    unfold begsTo
    rw [List.getElem?_map]
    by_cases q : c < ncl rows i + 1
    · rw [List.getElem?_range q, if_pos q]; rfl
    · rw [List.getElem?_eq_none (by rw [List.length_range]; omega), if_neg q]; rfl
  by_cases e : j = c
  · subst e
    rw [if_pos rfl, if_pos (by rw [begs_len]; omega), e1, if_pos (by omega)]
    unfold begC
    rw [if_pos ⟨Nat.lt_succ_self _, h⟩]
  · rw [if_neg e, e1, e1]
    have : begC rows gap least i (j + 1) c = begC rows gap least i j c := by
      unfold begC
      by_cases q : c < j ∧ rB rows i c = true
      · rw [if_pos q, if_pos ⟨by omega, q.2⟩]
      · rw [if_neg q, if_neg (fun z => q ⟨by omega, z.2⟩)]
    rw [this]
theorem set_map {α β : Type} {f : α → β} {xs : List α} {i : Nat} {x : α} : (xs.map f).set i (f x) = (xs.set i x).map f := by
  rw [List.map_set]
section
variable {P : Program} {w : World} {K : PySem.W.Frag} {mg : Str → Option Value} {base : Heap} {cs : List (Addr × Addr)}
def spBO (K : PySem.W.Frag) : Sp := fun vs H Q _ => ∃ (a l : Addr) (rows : List (List Str)) (gap least : Int) (i : Nat) (r : List Str), vs = [.ref a, .ref l, .int gap] ∧ rows[i]? = some r ∧ PgOk rows ∧ SqT K H a (sV r) ∧ CellsAt H rows gap least i (ncl rows i) l ∧
  ∀ (p : Addr) (H' : Hp), Same H H' → H p = none → H' p = some (.lst ((begsR rows gap least i).map V.int)) → Q (.ref p) H'
abbrev nmBO : List Str := ["row", "closed", "gap", "ends", "begins", "number", "width", "right"]
theorem sc_bo : FnScope nmBO ["row", "closed", "gap"] (defScope s_begins_of) := ⟨rfl, rfl, rfl, by decide +kernel, rfl, by decide +kernel, by decide +kernel⟩
theorem ok_bo {f g : Addr} {fd fdg : FuncData} (T : Txt mg) (F : Fun K "begins_of" "begins_of" s_begins_of f fd)
    (G : FnOk P w K mg base CX0 1 g fdg ["closed"] spLE) (kp : PySem.W.keepIn K (.ref g) = true) (bd : Binds K fdg ["closed"] []) (mgg : mg "left_ends" = some (.ref g)) : FnOk P w K mg base CX0 2 f fd ["row", "closed", "gap"] (spBO K) := by
  refine F.ok sc_bo (fun vs H Q E h => ?_) (fun cdv A outer s H vs Q E hr h => ?_)
  · obtain ⟨a, l, rows, gap, least, i, r, rfl, _⟩ := h
    rfl
  · obtain ⟨a, l, rows, gap, least, i, r, rfl, hr2, hO, hA, hC, k⟩ := h
    have nd := sc_bo.nd
    refine ⟨_, pss_cons (ps_set (i := 3) nd rfl (.inl rfl) (pe_call G hr (by rfl) mgg kp bd .nil pass0 (pa_cons (pv 1) pa_nil)))
      (pss_cons (ps_set (i := 4) nd rfl (.inl rfl) (pe_callTy call_list_of (by rfl) T.list (by decide +kernel) (pa_cons (pv 3) pa_nil)))
      (pss_cons (ps_for PassesOwn.never rfl (pi_enum (by rfl) T.enum (pa_cons (pv 1) pa_nil)) (pg_tup rfl (pgs_cons (pg_name (i := 5) nd rfl (.inl rfl)) (pgs_cons (pg_tup rfl (pgs_cons (pg_name (i := 6) nd rfl (.inl rfl)) (pgs_cons (pg_name (i := 7) nd rfl (.inl rfl)) pgs_nil))) pgs_nil)))
        (pss_one (ps_if (pt_val (pv 7)) (pss_one (ps_asg (pe_op op_sub (pe_op op_sub (pe_ix ix_list (pv 3) (pe_op op_add (pv 5) pe_int) (fun _ _ => rfl)) (pv 2)) (pe_callB call_len_str (by rfl) T.len PySem.boot_len (pa_cons (pe_ix ix_tup (pv 0) (pv 5) (fun _ _ => rfl)) pa_nil))) (pg_sub (pv 4) (pv 5) set_list))) pss_nil)))
      (pss_one (ps_ret (pv 4))))), ?_⟩
    have szl : (1000 : Nat) < sizeLine := by decide
    have n5 := ncl_le hO i
    have hrO := hO.rows r (List.mem_of_getElem? hr2)
    have hnc : ncl rows i = r.length - 1 := by unfold ncl; rw [hr2]
    refine ⟨_, rfl, l, rows, gap, least, i, ncl rows i, rfl, hC, n5, fun e H1 x1 ne he => ⟨_, rfl, e, _, rfl, .inl (SqL.of he), fun b nb => ?_⟩⟩
    obtain ⟨ts, h1, h2, h3⟩ := hC
    have x2 : Same H (upd H1 b (.lst ((leftsB rows gap least i (ncl rows i)).map V.int))) := same_trans x1 (same_new nb)
    have eb : e ≠ b := ne_of_none he nb
    have nb0 := same_old x1 nb
    refine ⟨_, rfl, l, _, rfl, SqL.of (x2 _ _ h1), for_it (walk_enum (xs := ts.map V.ref)) (fun j σ H' => ∃ c5 c6 c7 : Option V, σ = [some (.ref a), some (.ref l), some (.int gap), some (.ref e), some (.ref b), c5, c6, c7] ∧ Same H H' ∧ H' e = some (.lst ((leftsB rows gap least i (ncl rows i)).map V.int)) ∧ H' b = some (.lst ((begsTo rows gap least i j).map V.int)))
      ⟨_, _, _, rfl, x2, by rw [upd_ne eb]; exact he, by rw [upd_same, begs_zero]⟩ (fun j σ H' _ ⟨_, _, _, _, x, _⟩ => SqL.of (x _ _ h1)) ?_ ?_⟩
    · rintro j x σ H3 H4 hi ⟨c5, c6, c7, rfl, x3, he3, hb3⟩ ⟨Tp, v, u, rfl, hn, rfl, hv, hu⟩
      cases hv
      obtain ⟨t, ht, rfl⟩ := get_map hu
      have hj := (List.getElem?_eq_some_iff.mp ht).1
      have x4 : Same H3 (upd H3 Tp (.tup [.int (j : Nat), .ref t])) := same_new hn
      generalize hH4 : upd H3 Tp (.tup [.int (j : Nat), .ref t]) = H4 at x4 ⊢
      have hTp : H4 Tp = some (.tup [.int (j : Nat), .ref t]) := by rw [← hH4, upd_same]
      have x34 := same_trans x3 x4
      have he4 := x4 _ _ he3
      have hb4 := x4 _ _ hb3
      refine ⟨Tp, _, rfl, .inl (.inl hTp), rfl, _, _, rfl, _, _, rfl, t, _, rfl, .inl (.inl (x34 _ _ (h3 j t ht))), rfl, _, _, rfl, _, _, rfl, rfl, rfl, ?_⟩
      refine ⟨_, rfl, rB rows i j, rfl, ?_⟩
      cases hrb : rB rows i j with
      | false => exact iteF ⟨_, _, _, rfl, x34, he4, by rw [begs_no hrb]; exact hb4⟩
      | true =>
        have hjr : j < r.length := by omega
        have ec : lenC rows i j = (((r[j]'hjr).length : Nat) : Int) := by
          unfold lenC
          rw [show rows.getD i [] = r by rw [List.getD_eq_getElem?_getD, hr2]; rfl, List.getD_eq_getElem?_getD, List.getElem?_eq_getElem hjr]
          rfl
        have zl := (hrO.cells _ (List.getElem_mem hjr)).len
        refine iteT ⟨_, rfl, _, rfl, j, 1, rfl, rfl, e, _, ((j + 1 : Nat) : Int), _, rfl, rfl, SqL.of he4, atI_nat (by rw [List.getElem?_map, lefts_get (by omega)]; rfl), _, rfl, _, _, rfl, rfl, _, rfl, _, rfl, a, _, j, _, rfl, rfl, same_sqT x34 hA, atI_nat (by rw [List.getElem?_map, List.getElem?_eq_getElem hjr]; rfl), _, rfl, line10 (by omega), _, _, rfl, rfl, _, rfl, _, rfl, b, _, j, j, rfl, rfl, hb4, ?_, ⟨_, _, _, rfl, same_upd x34 nb0, by rw [upd_ne eb]; exact he4, ?_⟩⟩
        · rw [List.length_map, begs_len]
          unfold ixN
          rw [if_pos (by omega), if_pos (by omega)]
          rfl
        · rw [upd_same, set_map, ← ec, begs_yes (by omega) hrb]
    · rintro σ H3 ⟨c5, c6, c7, rfl, x3, he3, hb3⟩
      rw [List.length_map, h2] at hb3
      exact ⟨_, rfl, k b H3 x3 nb0 hb3⟩
end
end TG
namespace TG
open PySem L2 Gx
section
variable {P : Program} {w : World} {K : PySem.W.Frag} {mg : Str → Option Value} {base : Heap} {cs : List (Addr × Addr)}
abbrev nmLaid : List Str := ["page", "style", "rows", "gap", "row", "closed"]
theorem sc_laid : FnScope nmLaid ["page", "style"] (defScope s_laid) := ⟨rfl, rfl, rfl, by decide +kernel, rfl, by decide +kernel, by decide +kernel⟩
theorem ok_laid {f g g2 : Addr} {fd fdg fd2 : FuncData} (hz : mg "zip" = none) (F : Fun K "laid" "laid" s_laid f fd)
    (G : FnOk P w K mg base CX0 13 g fdg ["page", "style"] (spCC K cs)) (kp : PySem.W.keepIn K (.ref g) = true) (bd : Binds K fdg ["page", "style"] []) (mgg : mg "closed_cells" = some (.ref g))
    (G2 : FnOk P w K mg base CX0 2 g2 fd2 ["row", "closed", "gap"] (spBO K)) (kp2 : PySem.W.keepIn K (.ref g2) = true) (bd2 : Binds K fd2 ["row", "closed", "gap"] []) (mg2 : mg "begins_of" = some (.ref g2)) : FnOk P w K mg base CX0 14 f fd ["page", "style"] (spTold K cs begsR) := by
  refine F.ok sc_laid (fun vs H Q E h => ?_) (fun cdv A outer s H vs Q E hr h => ?_)
  · obtain ⟨a, st, as, rows, gap, least, rfl, _⟩ := h
    rfl
  · obtain ⟨a, st, as, rows, gap, least, rfl, hT, hP, hO, hS, k⟩ := h
    have nd := sc_laid.nd
    have hr2 : Room 2 _ := hr.mono (by decide)
    refine ⟨_, pss_cons (ps_set (i := 2) nd rfl (.inl rfl) (pe_call G hr (by rfl) mgg kp bd .nil pass0 (pa_cons (pv 0) (pa_cons (pv 1) pa_nil))))
      (pss_cons (ps_set (i := 3) nd rfl (.inr rfl) (pe_ix ix_tup (pv 1) pe_int (fun _ _ => rfl)))
      (pss_one (ps_ret (pe_lc (own := [("row", 4), ("closed", 5)]) (g := gTup K 2 (gCons (gName 4) (gCons (gName 5) gNil))) (tt := tYes) rfl nd (pi_zip (by rfl) hz (pa_cons (pv 0) (pa_cons (pv 2) pa_nil))) (blkOk_by (own := [("row", 4), ("closed", 5)]) (N := nmLaid) (sc := defScope s_laid) (by decide +kernel))
        (fun _ _ _ _ _ => pg_tup rfl (pgs_cons (pg_name (i := 4) nd rfl (.inl rfl) (.inr rfl)) (pgs_cons (pg_name (i := 5) nd rfl (.inl rfl) (.inr rfl)) pgs_nil))) (fun _ _ _ _ _ => pts_nil) (fun s1 H1 C1 cl1 fp1 => pe_call G2 hr2 (by rfl) mg2 kp2 bd2 .nil pass0 (pa_cons (pv 4) (pa_cons (pv 5) (pa_cons (pv 3) pa_nil)))))))), ?_⟩
    have ll := hO.len
    have szl : (1000 : Nat) < sizeLine := by decide
    refine ⟨_, rfl, _, rfl, a, st, as, rows, gap, least, rfl, hT, hP, hO, hS, fun r ls H1 x1 nr nls hr1 hll hC => ⟨_, rfl, st, _, 0, .int gap, rfl, rfl, x1.sqT hS.tup, at0, _, rfl, _, rfl, a, r, _, _, rfl, x1.sqL hP.lst, SqL.of hr1, fun D nD => lc_it (walk_zip (xs := as.map V.ref) (ys := ls.map V.ref) (n := rows.length) (by rw [List.length_map, List.length_map, hP.len, hll, Nat.min_self])) (fun i H' => ∃ es : List Addr, Ex cs H1 H' ∧ ToldAt H' D es (begsR rows gap least) i ∧ ∀ e ∈ es, H1 e = none ∧ e ≠ D)
      ⟨[], Ex.laid x1.tab nD, ⟨upd_same, rfl, List.nodup_nil, fun i e h => by simp at h⟩, fun e h => by simp at h⟩ (fun i H' _ ⟨es, x, _⟩ => ⟨x.sqL (x1.sqL hP.lst), SqL.of (x.lst hr1)⟩) ?_ ?_⟩⟩
    · rintro i v H2 H3 hi ⟨es, x2, t2, f2⟩ ⟨Tp, v1, u, rfl, hn, rfl, hv, hu⟩
      obtain ⟨p, hp, rfl⟩ := get_map hv
      obtain ⟨l, hl, rfl⟩ := get_map hu
      obtain ⟨z, hz2⟩ := getP (xs := rows) (i := i) hi
      have x3 := Ex.laid (o := .tup [.ref p, .ref l]) x2.tab hn
      generalize hH : upd H2 Tp (.tup [.ref p, .ref l]) = H3 at x3 ⊢
      have hTp : H3 Tp = some (.tup [.ref p, .ref l]) := by rw [← hH, upd_same]
      have x23 := x2.trans x3
      refine ⟨Tp, _, rfl, .inl (.inl hTp), rfl, _, _, rfl, _, _, rfl, rfl, rfl, _, rfl, _, rfl, _, rfl, p, l, rows, gap, least, i, z, rfl, hz2, hO, (x1.trans x23).sqT (hP.row i p z hp hz2), (hC i l hl).ext x23.ext, fun q H4 x4 nq hq => ?_⟩
      have t3 := t2.ext x3.ext
      have qD : q ≠ D := fun z => by rw [z, x4 _ _ t3.lst] at hq; have := x4 _ _ t3.lst; rw [← z] at this; rw [z, t3.lst] at nq; cases nq
      refine ⟨_, x4 _ _ t3.lst, by rw [List.length_map, t3.len]; omega, es ++ [q], ex_new x1.tab (x23.trans (ex_same x3.tab x4)) nD, t3.add (same_ext x4) nq hq (fun z => (f2 D z).2 rfl), fun e h => ?_⟩
      rcases List.mem_append.mp h with z | z
      · exact f2 e z
      · rw [List.mem_singleton.mp z]
        exact ⟨x23.old _ nq, qD⟩
    · rintro H2 ⟨es, x2, t2, f2⟩
      exact k D es H2 (x1.trans x2) (x1.old _ nD) (fun e h => ⟨x1.old _ (f2 e h).1, (f2 e h).2⟩) t2
end
end TG
namespace TG
open PySem L2 Gx
theorem ToldAt.go {H H' : Hp} {r : Addr} {es : List Addr} {f : Nat → List Int} {n : Nat} (t : ToldAt H r es f n) (x : Same H H') : ToldAt H' r es f n := t.ext (same_ext x)
section
variable {P : Program} {w : World} {K : PySem.W.Frag} {mg : Str → Option Value} {base : Heap} {cs : List (Addr × Addr)}
theorem StyleAt.same {H H' : Hp} {a : Addr} {gap least : Int} (p : StyleAt K H a gap least) (e : Same H H') : StyleAt K H' a gap least := ⟨same_sqT e p.tup, p.g0, p.g1, p.l0, p.l1⟩
end
end TG
namespace TG
open PySem L2 Gx
theorem ToldAt.congr {H : Hp} {r : Addr} {es : List Addr} {f g : Nat → List Int} {n : Nat} (t : ToldAt H r es f n) (e : ∀ i, i < n → f i = g i) : ToldAt H r es g n :=
  ⟨t.lst, t.len, t.nd, fun i u h => by rw [← e i (by rw [← t.len]; exact (List.getElem?_eq_some_iff.mp h).1)]; exact t.at_ i u h⟩
theorem ToldAt.put {H : Hp} {r : Addr} {es : List Addr} {f : Nat → List Int} {n i : Nat} {e : Addr} {xs : List Int} (t : ToldAt H r es f n) (he : es[i]? = some e) (ne : e ≠ r) : ToldAt (upd H e (.lst (xs.map V.int))) r es (fun k => if k = i then xs else f k) n := by
  refine ⟨by rw [upd_ne ne.symm]; exact t.lst, t.len, t.nd, fun k u h => ?_⟩
  by_cases q : k = i
  · subst q
    rw [he] at h
    cases h
    rw [upd_same, if_pos rfl]
  · rw [if_neg q, upd_ne (fun z => q (nd_ix t.nd h (by rw [z]; exact he)))]
    exact t.at_ k u h
section
variable {P : Program} {w : World} {K : PySem.W.Frag} {mg : Str → Option Value} {base : Heap} {cs : List (Addr × Addr)}
end
end TG
namespace TG
open PySem L2 Gx
def rowsD (rows : List (List Str)) : List PyData := rows.map fun r => .tuple (r.map .str)
theorem dp_rows {K : PySem.W.Frag} {H : Hp} : ∀ {as : List Addr} {rows : List (List Str)}, as.length = rows.length → (∀ (i : Nat) (q : Addr) (r : List Str), as[i]? = some q → rows[i]? = some r → SqT K H q (sV r)) → DpAll K H (as.map V.ref) (rowsD rows)
  | [], [], _, _ => .nil
  | [], _ :: _, h, _ => by simp at h
  | _ :: _, [], h, _ => by simp at h
  | a :: as, r :: rows, h, k => .cons (.tup (k 0 a r rfl rfl) (dp_strs r)) (dp_rows (by simpa using h) fun i q r' h1 h2 => k (i + 1) q r' (by simpa using h1) (by simpa using h2))
theorem canAll_rows : ∀ {rows : List (List Str)}, (∀ r ∈ rows, ∀ z ∈ r, CellOk z) → PyData.canLayAll0 (rowsD rows) = true
  | [], _ => rfl
  | r :: rows, h => by
    show PyData.canLayAll0 (.tuple (r.map .str) :: rowsD rows) = true
    simp only [PyData.canLayAll0, PyData.canLay0, Bool.and_eq_true]
    exact ⟨canAll_strs fun z hz => (h r List.mem_cons_self z hz).sg, canAll_rows fun r' hr => h r' (List.mem_cons_of_mem _ hr)⟩
theorem depthAll_rows : ∀ rows : List (List Str), PyData.depthAll (rowsD rows) ≤ 1
  | [] => Nat.zero_le _
  | r :: rows => by
    show PyData.depthAll (.tuple (r.map .str) :: rowsD rows) ≤ 1
    simp only [PyData.depthAll, PyData.depth, depthAll_strs]
    have := depthAll_rows rows
    omega
theorem can_rows {rows : List (List Str)} (h : PgOk rows) : PyData.canLay0 (.list (rowsD rows)) = true := by
  simp only [PyData.canLay0]
  exact canAll_rows fun r hr z hz => (h.rows r hr).cells z hz
theorem shaped_rows {rows : List (List Str)} (h : PgOk rows) : SeqAt.shaped (.list (rowsD rows)) = true := by
  have := depthAll_rows rows
  unfold SeqAt.shaped
  rw [can_rows h, Bool.true_and]
  exact decide_eq_true (by simp only [PyData.depth]; omega)
theorem tabs_kb {cs : List (Addr × Addr)} {b l : Addr} {H H' : Hp} (t : Tabs cs H) (B : BoxAt H b l) (x : KB b l H H') : Tabs cs H' := fun p hp => by
  obtain ⟨ps, h1, h2⟩ := t p hp
  obtain ⟨ns, st, e1, e2, _⟩ := B
  exact ⟨ps, x _ _ h1 (ne_of h1 e1 (by intro z; cases z)) (ne_of h1 e2 (by intro z; cases z)), h2⟩
theorem box_ext {b l : Addr} {H H' : Hp} (B : BoxAt H b l) (x : LamX.ExtN H H') : BoxAt H' b l := let ⟨ns, st, h1, h2, h3⟩ := B; ⟨ns, st, x _ _ h1 (by intro ps z; cases z), x _ _ h2 (by intro ps z; cases z), h3⟩
/-- what stands in a turn of the law: the box, the tables, the page and its copy, the style -/
structure PageT (cs : List (Addr × Addr)) (b l p q h : Addr) (as : List Addr) (rows : List (List Str)) (gap least : Int) (H : Hp) : Prop where
  box : BoxAt H b l
  tab : Tabs cs H
  pg : H p = some (.lst (as.map V.ref))
  hd : H h = some (.lst (as.map V.ref))
  al : as.length = rows.length
  row : ∀ (i : Nat) (a : Addr) (z : List Str), as[i]? = some a → rows[i]? = some z → H a = some (.tup (sV z))
  sty : H q = some (.tup [.int gap, .int least])
  g0 : 0 ≤ gap
  g1 : gap ≤ 4
  l0 : 0 ≤ least
  l1 : least ≤ 12
  ok : PgOk rows
theorem PageT.ext {cs : List (Addr × Addr)} {b l p q h : Addr} {as : List Addr} {rows : List (List Str)} {gap least : Int} {H H' : Hp} (t : PageT cs b l p q h as rows gap least H) (x : LamX.ExtN H H') (y : Tabs cs H') : PageT cs b l p q h as rows gap least H' :=
  ⟨box_ext t.box x, y, x _ _ t.pg (by intro ps z; cases z), x _ _ t.hd (by intro ps z; cases z), t.al, fun i a z h1 h2 => x _ _ (t.row i a z h1 h2) (by intro ps z; cases z), x _ _ t.sty (by intro ps z; cases z), t.g0, t.g1, t.l0, t.l1, t.ok⟩
end TG
namespace Zm
open PySem PySem.Spec PyProof.Rows L2
section
variable {P : Program} {w : World} {A : Around} {E : Value → Shared → Prop} {s : Shared} {z TI TO i1 i2 l1 l2 : Addr}
end
end Zm
namespace Zm
open PySem PySem.Spec PyProof.Rows L2
abbrev k1 (h : Heap) (a : Addr) : Heap := h.push { cls := .type "tuple_iterator", data := .fields #[.ref a, .int 0 0] }
abbrev k2 (h : Heap) (a b : Addr) : Heap := (k1 h a).push { cls := .type "list_iterator", data := .fields #[.ref b, .int 0 0] }
abbrev k3 (h : Heap) (a b : Addr) : Heap := (k2 h a b).push { cls := .type "tuple", data := .seq #[.ref h.objs.size, .ref (k1 h a).objs.size] }
abbrev k4 (h : Heap) (a b : Addr) : Heap := (k3 h a b).push { cls := .type "tuple", data := .seq #[.none, .none] }
abbrev k5 (h : Heap) (a b : Addr) : Heap := (k4 h a b).push { cls := .type "zip", data := .fields #[.none, .bool false, .bool false, .ref (k2 h a b).objs.size, .ref (k3 h a b).objs.size] }
theorem made (a b : Addr) (xs ys : Array Value) : Meets (Builtin.«zip.__new__» ⟨[.type "zip", .ref a, .ref b], []⟩) (fun _ R t => t.heap.IsTuple a xs ∧ t.heap.IsList b ys ∧ R (.ok (.ret (.ref (k4 t.heap a b).objs.size))) { t with heap := k5 t.heap a b }) :=
  .of_wp fun P w A R t h => by
    obtain ⟨hp, g, d, tk, os⟩ := t
    obtain ⟨u1, u2, h⟩ := h
    have hsub := sub_zip
    have v1 : Heap.IsTuple (Shared.heap ⟨hp, g, d, tk, os⟩) a xs := u1
    have v2 : Heap.IsList (Shared.heap ⟨hp.push { cls := .type "tuple_iterator", data := .fields #[.ref a, .int 0 0] }, g, d, tk, os⟩) b ys := Heap.IsList.push u2 _
    wp_walk using wpAny_pyIter_tuple v1, wpAny_pyIter_list v2
    exact ⟨_, rfl, h⟩
section
variable {P : Program} {w : World} {A : Around} {E : Value → Shared → Prop} {s : Shared}
end
end Zm
namespace TG
open PySem L2 Gx
section
variable {P : Program} {w : World} {K : PySem.W.Frag} {mg : Str → Option Value} {base : Heap} {cs : List (Addr × Addr)}
end
end TG
namespace TG
open PySem L2 Gx
section
variable {P : Program} {w : World} {K : PySem.W.Frag} {mg : Str → Option Value} {base : Heap} {cs : List (Addr × Addr)}
end
end TG
namespace Lv
open PySem PySem.Spec PyProof.Rows L2 NdefX GenW
/-- the object at f is the lambda F of the body e -/
def FnL (f : Addr) (F : NF) (e : Expr) : HO := .ext fun h => ∃ (od : Option Addr) (sl : Array (Option Value)) (pm ctv : Value), h.get? f = some (⟨.type "function", od, .func (PySem.W.kla_fn F.name F.qual F.params e F.scope F.cl pm (.ref F.c) ctv), sl⟩ : Obj)
theorem fnL_at {P : Program} {w : World} {H : Hp} {h : Heap} {f : Addr} {F : NF} {e : Expr} (hok : HOk P w H h) (q : H f = some (FnL f F e)) : ∃ (od : Option Addr) (sl : Array (Option Value)) (pm ctv : Value), h.get? f = some (⟨.type "function", od, .func (PySem.W.kla_fn F.name F.qual F.params e F.scope F.cl pm (.ref F.c) ctv), sl⟩ : Obj) := by
  have z := hok f _ q
  obtain ⟨z, _, _⟩ := z
  exact z
section
variable {X : Cx} {pins : List (Addr × Obj)} {σ : L2.St} {H : Hp} {s : Shared}
end
section
variable {P : Program} {w : World} {K : PySem.W.Frag} {mg : Str → Option Value} {base : Heap}
end
end Lv
namespace TG
open PySem PySem.Spec PyProof.Rows L2
abbrev cellF (o : Obj) : HO := .frz o (.own 0)
def addC (H : Hp) (cl : List (Addr × Obj)) : Hp := fun b => match cl.lookup b with
  | some o => some (cellF o)
  | none => H b
def delC (H : Hp) (cl : List (Addr × Obj)) : Hp := fun b => match cl.lookup b with
  | some _ => none
  | none => H b
theorem addC_in {H : Hp} {cl : List (Addr × Obj)} {b : Addr} {o : Obj} (h : cl.lookup b = some o) : addC H cl b = some (cellF o) := by unfold addC; rw [h]
theorem addC_out {H : Hp} {cl : List (Addr × Obj)} {b : Addr} (h : cl.lookup b = none) : addC H cl b = H b := by unfold addC; rw [h]
theorem delC_in {H : Hp} {cl : List (Addr × Obj)} {b : Addr} {o : Obj} (h : cl.lookup b = some o) : delC H cl b = none := by unfold delC; rw [h]
theorem delC_out {H : Hp} {cl : List (Addr × Obj)} {b : Addr} (h : cl.lookup b = none) : delC H cl b = H b := by unfold delC; rw [h]
section
variable {P : Program} {w : World}
variable {K : PySem.W.Frag} {mg : Str → Option Value} {base : Heap} {A : Around} {outer : List Env} {s s' : Shared}
end
end TG
namespace TG
open PySem PySem.Spec PyProof.Rows L2 NdefX GenW Gx Lv
/-- the captured names' cells, told of, hold these values -/
structure Caught (F : NF) (fr : List Str) (ws : List (Option V)) (cl : List (Addr × Obj)) (H : Hp) : Prop where
  len : ws.length = fr.length
  told : ∀ c o, cl.lookup c = some o → H c = some (cellF o)
  all : ∀ y c, F.cl.lookup y = some c → ∃ o v, cl.lookup c = some o ∧ o.data = .cell v
  inj : ∀ x y c, F.cl.lookup x = some c → F.cl.lookup y = some c → x = y
  has : ∀ (i : Nat) (y : Str), fr[i]? = some y → ∃ c, F.cl.lookup y = some c ∧ ∀ v, ws[i]? = some (some v) → ∃ o u, cl.lookup c = some o ∧ o.data = .cell (some u) ∧ RelV v u
section
variable {P : Program} {w : World} {K : PySem.W.Frag} {mg : Str → Option Value} {base : Heap}
structure LOkX (P : Program) (w : World) (K : PySem.W.Frag) (mg : Str → Option Value) (base : Heap) (k : Nat) (f : Addr) (F : NF) (e : Expr) (sp : Sp) : Prop where
  run : ∀ (A : Around) (outer : List Env) (s : Shared) (H : Hp) (Q : VK) (E : XK), Room k A → Env0 P w K mg base A outer s H → H f = some (FnL f F e) → H F.c = some (LamX.CodeO F.c F.qual) → sp [] H Q E →
    codeAny (model P w) A (.call (.ref f) ⟨[], []⟩) (CR (L2.CX P w) outer P w H s Q E) s
end
end TG
namespace TG
open PySem PySem.Spec PyProof.Rows L2 NdefX GenW Gx Lv
structure ToldC (cells : List (Str × Addr)) (N names : List Str) (σ : L2.St) (cl : List (Addr × Obj)) : Prop where
  all : ∀ y ∈ names, ∃ c o v, cells.lookup y = some c ∧ cl.lookup c = some o ∧ o.data = .cell v
  val : ∀ y ∈ names, ∀ c o, cells.lookup y = some c → cl.lookup c = some o → ∀ (i : Nat) (v : V), N[i]? = some y → σ[i]? = some (some v) → ∃ u, o.data = .cell (some u) ∧ RelV v u
  inj : ∀ y z c, cells.lookup y = some c → cells.lookup z = some c → y = z
end TG
namespace TG
open PySem PySem.Spec PyProof.Rows L2 NdefX GenW Gx Lv
end TG
namespace TG
open PySem PySem.Spec PyProof.Rows L2
end TG
namespace TG
open PySem PySem.Spec PyProof.Rows L2
def excNm : List Str := ["BadPage", "BadStyle", "BadRow", "BadCell", "BadCount", "BadLines", "BadStep", "BadStroke", "BadText", "BadHand", "TooMuch"]
def excFl : List Str := ["row", "", "", "", "", "line", "number", "number", "row", "", ""]
abbrev nmE (j : Nat) : Str := excNm.getD j ""
abbrev flE (j : Nat) : Str := excFl.getD j ""
end TG

namespace TGK
open TG
open PySem PySem.Spec PyProof.Rows L2 Gx
/-! ### places of this text -/
abbrev s_check_number : Stmt := top 39
abbrev s_check_fits : Stmt := top 40
abbrev s_check_row : Stmt := top 23
abbrev s_pmoved : Stmt := top 41
abbrev nSheet : Nat := 38
end TGK

namespace EnT
open PySem PySem.Spec PyProof.Rows L2
/-! ### enumerate over a tuple -/
theorem newClass_enum (v : Value) : Builtin.SmallTypes.newClass "enumerate" { pos := [Value.type "enumerate", v] } = pure (Value.type "enumerate", [v]) := by
  simp [Builtin.SmallTypes.newClass, show isType (Value.type "enumerate") = pure true from rfl, sub_enumerate]
theorem meets_enum1 (v : Value) (o : Obj) (H : Heap → Prop) (b : Begins v o H) : Meets (Builtin.«enumerate.__new__» { pos := [Value.type "enumerate", v] }) fun _ R s =>
    H s.heap ∧ R (Except.ok (Flow.ret (Value.ref (s.heap.push o).objs.size))) { heap := (s.heap.push o).push { cls := Value.type "enumerate", data := Data.fields #[Value.none, Value.bool false, Value.ref s.heap.objs.size, rawInt 0, Value.none, Value.none] }, gens := s.gens, drawn := s.drawn, toks := s.toks, os := s.os } := by
  intro prog w A R s ⟨h1, h2⟩
  unfold Builtin.«enumerate.__new__»
  rw [newClass_enum]
  refine wpAny_bind (wpAny_pure ?_)
  simp only [beq_self_eq_true, if_true]
  have key : ∀ s' : Shared, s' = s → wpAny (model prog w) A.in1 (do
      let __do_lift ← pyIter v
      let __do_lift ← Builtin.SmallTypes.newRecord (Value.type "enumerate") (Builtin.SmallTypes.ownedTupleFields ++ [__do_lift, rawInt 0, Value.none, Value.none])
      ret __do_lift) (fun fin s' => match fin with
          | Fin.done f => R (Except.ok f) s'
          | Fin.again c' => c'.quiet = true ∧ codeAny (model prog w) A c' R s') (fun e s' => R (Except.error e) s') s' := by
    rintro s' rfl
    refine wpAny_bind (b.iter prog w A.in1 _ s' _ h1 (wpAny_bind ?_))
    refine wpAny_newObj_type (T := "enumerate") (data := Data.fields #[Value.none, Value.bool false, Value.ref s'.heap.objs.size, rawInt 0, Value.none, Value.none]) (dict := none) ?_
    exact wpAny_pure h2
  refine wpAny_bind ?_
  unfold Builtin.SmallTypes.calledThroughType
  refine wpAny_bind (wpAny_stack fun st _ _ _ => ?_)
  refine wpAny_pure ?_
  exact iteInduction (motive := fun m => wpAny (model prog w) A.in1 m _ _ s) (fun _ => key s rfl) (fun _ => key s rfl)
theorem ao1 (obj v : Value) : argsOk "object.__init__" { pos := obj :: [v] } := by
  constructor <;> rfl
theorem call_enum1 {prog : Program} {w : World} {A : Around} {E : Value → Shared → Prop} {s : Shared} {v : Value} {o : Obj} {H : Heap → Prop} {Q : Value → Shared → Prop} (b : Begins v o H) (h : H s.heap)
    (k : ∀ h' : Heap, IsEnum h' (s.heap.objs.size + 1) s.heap.objs.size 0 Value.none → h'.get? s.heap.objs.size = some o → h'.objs.size = s.heap.objs.size + 2 → (∀ (b : Addr) (o : Obj), s.heap.get? b = some o → h'.get? b = some o) →
      Q (.ref (s.heap.objs.size + 1)) { s with heap := h' }) : wpAny (model prog w) A (call (Value.type "enumerate") [v]) Q E s := by
  have e1 : (s.heap.push o).objs.size = s.heap.objs.size + 1 := Array.size_push ..
  refine callType_new F.called_enumerate (by decide) (F.typeCall_enumerate_1 v) (F.newCall_enumerate_1 v) (fun obj => ao1 obj v) F.entry_enumerate_new (meets_enum1 v o H b) ⟨h, ?_⟩
  have n1 : ∀ (b : Addr) (u : Obj), s.heap.get? b = some u → (s.heap.push o).get? b = some u := fun b u q => Heap.get?_push_of_some _ q
  have g1 : (s.heap.push o).get? s.heap.objs.size = some o := Heap.get?_push_size _ b.free
  have g2 : ((s.heap.push o).push { cls := Value.type "enumerate", data := Data.fields #[Value.none, Value.bool false, Value.ref s.heap.objs.size, rawInt 0, Value.none, Value.none] }).get? (s.heap.push o).objs.size = some { cls := Value.type "enumerate", data := Data.fields #[Value.none, Value.bool false, Value.ref s.heap.objs.size, rawInt 0, Value.none, Value.none] } := Heap.get?_push_size _ rfl
  refine ⟨⟨_, g2, rfl⟩, ?_⟩
  rw [e1] at g2 ⊢
  exact k _ g2 (Heap.get?_push_of_some _ g1) (by show (Array.push _ _).size = _; rw [Array.size_push]; show (s.heap.objs.push o).size + 1 = _; rw [Array.size_push]) fun b u q => Heap.get?_push_of_some _ (n1 b u q)
/-- as Ite, over a tuple -/
def Itet (K : PySem.W.Frag) (a : Addr) : It where
  go := fun i H => ∃ xs x, SqT K H a xs ∧ xs[i]? = some x
  yld := fun i H v H' => ∃ (T : Addr) (x : V), v = .ref T ∧ H T = none ∧ H' = upd H T (.tup [.int (i : Nat), x]) ∧ ∀ xs : List V, SqT K H a xs → xs[i]? = some x
  stop := fun i H => ∃ xs, SqT K H a xs ∧ xs.length = i
theorem vals_get {xs : List V} {us : List Value} (h : Vals xs us) : ∀ {i : Nat} {x : V} {u : Value}, xs[i]? = some x → us.toArray[i]? = some u → RelV x u := by
  induction h with
  | nil => intro i x u e _; cases e
  | cons r _ ih =>
    intro i x u e1 e2
    cases i with
    | zero =>
      simp at e1 e2
      rw [← e1, ← e2]
      exact r
    | succ i =>
      simp at e1 e2
      exact ih e1 (by simpa using e2)
theorem turn_enumT {P : Program} {w : World} {K : PySem.W.Frag} {elts : List Expr} {kk : Nat} {tpos : Pos} (a e it : Addr) (nei : e ≠ it) (nai : a ≠ it) (nae : a ≠ e) :
    Turn P w K (.Tuple elts kk tpos) (Itet K a) [e, it] e fun i h => (∃ old, IsEnum h e it (i : Nat) old) ∧ h.IsTupleIter it a i := by
  have hni : e ∉ [it, a] := fun z => by
    simp only [List.mem_cons, List.not_mem_nil, or_false] at z
    rcases z with z | z
    · exact nei z
    · exact nae z.symm
  refine ⟨List.mem_cons_self, fun i h hh b hb => ?_, fun i h h' hh k => ?_, ?_, ?_, fun A i s Q E hh q => ?_⟩
  · obtain ⟨⟨old, h1⟩, o, h2, h3, h4⟩ := hh
    simp only [List.mem_cons, List.not_mem_nil, or_false] at hb
    rcases hb with rfl | rfl
    · exact ⟨_, h1, fun v z => by cases z⟩
    · exact ⟨o, h2, fun v z => by rw [h4] at z; cases z⟩
  · obtain ⟨⟨old, h1⟩, o, h2, h3⟩ := hh
    exact ⟨⟨old, k e (by simp) _ h1⟩, o, k it (by simp) _ h2, h3⟩
  · intro X hP hw hK hc i pins s σ H E I hfp hh hgo
    subst hP hw hK
    obtain ⟨⟨old, hE⟩, hI⟩ := hh
    obtain ⟨xs, x, hS, hx⟩ := hgo
    obtain ⟨its, hv, ht, hl⟩ := I.tuple hS
    have W := WalksT.enumerateD (Draws.tuple (prog := X.prog) (w := X.w) (A := X.A.in1) (I.ok.hd hc) it a nai its.toArray) e nei hni (by simp)
    have hlen := hv.length
    have hi : i < xs.length := (List.getElem?_eq_some_iff.mp hx).1
    refine W.item i s _ E (by simp; omega) ⟨⟨old, hE⟩, hI, ht⟩ fun T vals h' tk hPt hsz hT hMid hk => ⟨_, rfl, ?_⟩
    refine W.go elts kk tpos i T _ _ E hMid fun h'' hSt hk2 => ?_
    obtain ⟨t, u, hu, rfl⟩ := hPt
    have hTn : H T = none := I.hok.fresh hsz
    have hTw := W.apart i T h' hMid
    have hT2 : h''.IsTuple T #[.int (i : Nat) t, u] := by
      obtain ⟨o, q1, q2⟩ := hT
      exact ⟨o, hk2 T o hTw q1, q2⟩
    refine ⟨.ref T, upd H T (.tup [.int (i : Nat), x]), I.turnedNew (ch := [e, it]) (fun b o hb q => hk2 b o hb (hk b o hb q)) hfp hsz ?_, rfl, ⟨T, x, rfl, hTn, rfl, fun ys hy => ?_⟩, ⟨hSt.1, hSt.2.1⟩, fun b hb => ?_⟩
    · simp only [ObjOk]
      exact ⟨by show 2 ≤ sizeLine; decide, [_, _], .cons ⟨t, rfl⟩ (.cons (vals_get hv hx hu) .nil), hT2⟩
    · rw [I.tuple_inj hy hS]; exact hx
    · rw [upd_ne fun z : b = T => hTw (by rw [← z]; exact hb)]
      exact (hfp b hb).1
  · intro X hP hw hK hc i pins s σ H E I hfp hh hst
    subst hP hw hK
    obtain ⟨⟨old, hE⟩, hI⟩ := hh
    obtain ⟨xs, hS, rfl⟩ := hst
    obtain ⟨its, hv, ht, hl⟩ := I.tuple hS
    have W := WalksT.enumerateD (Draws.tuple (prog := X.prog) (w := X.w) (A := X.A.in1) (I.ok.hd hc) it a nai its.toArray) e nei hni (by simp)
    have hlen := hv.length
    have en : its.toArray.size = xs.length := by simp; omega
    rw [en] at W
    exact W.done s _ E ⟨⟨old, hE⟩, hI, ht⟩ fun h' tk hk => ⟨rfl, I.turnedL (ch := [e, it]) hk hfp⟩
  · obtain ⟨⟨old, hE⟩, _⟩ := hh
    exact wpAny_pyIter_enum hE q
def iEnumT (K : PySem.W.Frag) (te : TE) : TI := fun σ H R => te σ H fun v H1 => ∃ a xs, v = .ref a ∧ SqT K H1 a xs ∧ R (Itet K a) H1
theorem pi_enumT {X : Cx} {e : Expr} {te : TE} {p pos tpos : Pos} {elts : List Expr} {kk : Nat} (hg : Gl X "enumerate") (hm : X.mg "enumerate" = none) (he : PE X e te) (hs : starEach [e] X.env = [(false, eval e X.env)] := by rfl) :
    PI X (.Tuple elts kk tpos) (.Call (.Name "enumerate" p) [e] [] pos) (iEnumT X.K te) := by
  refine ⟨fun pins s σ H R I h => ?_⟩
  refine wpAny_Call_Name_kw (ld_blt I hg hm boot_enumerate ?_)
  rw [hs]
  refine callWith_type1 (thn (he.run pins s σ H _ I h) fun v s1 ⟨x, H1, I1, r, a, xs, ex, hS, hR⟩ => ?_)
  subst ex
  obtain rfl : v = .ref a := r
  obtain ⟨its, hv, ht, hl⟩ := I1.tuple hS
  refine call_enum1 (begins_tuple a its.toArray) ht fun h' hE hit hsz hk => ?_
  have ha : a < s1.heap.objs.size := by
    obtain ⟨o, q, _⟩ := ht
    exact Heap.lt_size q
  refine wpAny_pyIter_enum hE ⟨s1.heap.objs.size + 1, [s1.heap.objs.size + 1, s1.heap.objs.size], _, Itet X.K a, H1, rfl, I1.kept hk, turn_enumT a (s1.heap.objs.size + 1) s1.heap.objs.size (Nat.succ_ne_self _) (Nat.ne_of_lt ha) (Nat.ne_of_lt (Nat.lt_succ_of_lt ha)), ⟨⟨_, hE⟩, _, hit, rfl, rfl⟩, fun b hb => ?_, hR⟩
  simp only [List.mem_cons, List.not_mem_nil, or_false] at hb
  rcases hb with rfl | rfl
  · exact I1.fpOk (Nat.le_succ _) (I1.hok.fresh (Nat.le_succ _))
  · exact I1.fpOk (Nat.le_refl _) (I1.hok.fresh (Nat.le_refl _))
theorem walk_enumT {K : PySem.W.Frag} {a : Addr} {xs : List V} : Walk (Itet K a) xs.length (fun H => SqT K H a xs) (YPair (fun i => some (.int (i : Nat))) fun i => xs[i]?) := by
  refine ⟨fun i H hi h => ?_, fun H h => ⟨xs, h, rfl⟩, fun i H x H' hi h hy => ?_⟩
  · exact ⟨xs, xs[i], h, List.getElem?_eq_getElem hi⟩
  · obtain ⟨T, v, rfl, hn, rfl, hx⟩ := hy
    exact ⟨T, _, v, rfl, hn, rfl, rfl, hx xs h⟩
end EnT

namespace TGK
open TG
open PySem PySem.Spec PyProof.Rows L2 Gx EnT
/-! ### comprehensions of two for's -/
abbrev InW (J1 : It) (g1 : TG) (tt1 : TT) (te : TE) (vs1 : List Nat) (σ2 : L2.St) (D : Addr) (H4 : Hp) (Nx : Hp → Prop) : Prop := ∃ W1 : Nat → Nat → Hp → Prop, (∃ m, W1 0 m H4) ∧ ∀ (j k : Nat) (H : Hp), W1 j k H → J1.stop j H ∧ Nx H ∨ J1.go j H ∧ ∃ Nx1 : Hp → Prop, (∀ H', Nx1 H' → ∃ k', k' < k ∧ W1 (j + 1) k' H') ∧
  ∀ (x : V) (H' : Hp), J1.yld j H x H' → g1 x (wipe σ2 vs1) H' fun σ3 H5 => wipe σ3 vs1 = wipe σ2 vs1 ∧ tt1 σ3 H5 fun b H6 => if b = true then te σ3 H6 fun y H7 => ∃ acc, H7 D = some (.lst acc) ∧ acc.length < sizeLine ∧ Nx1 (upd H7 D (.lst (acc ++ [y]))) else Nx1 H6
theorem lc2_in {J1 : It} {n1 : Nat} {G1 : Hp → Prop} {Y1 : Nat → Hp → V → Hp → Prop} (w : Walk J1 n1 G1 Y1) {g1 : TG} {tt1 : TT} {te : TE} {vs1 : List Nat} {σ2 : L2.St} {D : Addr} {H4 : Hp} {Nx : Hp → Prop} (Pv : Nat → Hp → Prop) (h0 : Pv 0 H4) (hg : ∀ i H, i ≤ n1 → Pv i H → G1 H)
    (hs : ∀ (j : Nat) (x : V) (H H' : Hp), j < n1 → Pv j H → Y1 j H x H' → g1 x (wipe σ2 vs1) H' fun σ3 H5 => wipe σ3 vs1 = wipe σ2 vs1 ∧ tt1 σ3 H5 fun b H6 => if b = true then te σ3 H6 fun y H7 => ∃ acc, H7 D = some (.lst acc) ∧ acc.length < sizeLine ∧ Pv (j + 1) (upd H7 D (.lst (acc ++ [y]))) else Pv (j + 1) H6)
    (hd : ∀ H, Pv n1 H → Nx H) : InW J1 g1 tt1 te vs1 σ2 D H4 Nx := by
  refine ⟨fun j k H => j ≤ n1 ∧ k = n1 - j ∧ Pv j H, ⟨_, Nat.zero_le _, rfl, h0⟩, fun j k H ⟨h1, h2, h3⟩ => ?_⟩
  by_cases h : j = n1
  · subst h
    exact .inl ⟨w.stops H (hg _ H (Nat.le_refl _) h3), hd H h3⟩
  · have hj : j < n1 := by omega
    exact .inr ⟨w.goes j H hj (hg j H h1 h3), Pv (j + 1), fun H' q => ⟨n1 - (j + 1), by omega, hj, rfl, q⟩, fun x H' hy => hs j x H H' hj h3 (w.yields j H x H' hj (hg j H h1 h3) hy)⟩
theorem lc2_it {J : It} {n : Nat} {G : Hp → Prop} {Y : Nat → Hp → V → Hp → Prop} (w : Walk J n G Y) {wi1 : TI} {g g1 : TG} {tt tt1 : TT} {te : TE} {vs vs1 : List Nat} {σ : L2.St} {H1 : Hp} {D : Addr} {Qd : Hp → Prop} (Pv : Nat → Hp → Prop) (h0 : Pv 0 (upd H1 D (.lst []))) (hg : ∀ i H, i ≤ n → Pv i H → G H)
    (hs : ∀ (i : Nat) (x : V) (H H' : Hp), i < n → Pv i H → Y i H x H' → g x (wipe σ vs) H' fun σ2 H2 => wipe σ2 vs = wipe σ vs ∧ tt σ2 H2 fun b H3 => if b = true then wi1 σ2 H3 fun J1 H4 => InW J1 g1 tt1 te vs1 σ2 D H4 (Pv (i + 1)) else Pv (i + 1) H3)
    (hd : ∀ H, Pv n H → Qd H) :
    ∃ W : Nat → Nat → Hp → Prop, (∃ m, W 0 m (upd H1 D (.lst []))) ∧ ∀ (i m : Nat) (H : Hp), W i m H → J.stop i H ∧ Qd H ∨ J.go i H ∧ ∃ Nx : Hp → Prop, (∀ H', Nx H' → ∃ m', m' < m ∧ W (i + 1) m' H') ∧
      ∀ (x : V) (H' : Hp), J.yld i H x H' → g x (wipe σ vs) H' fun σ2 H2 => wipe σ2 vs = wipe σ vs ∧ tt σ2 H2 fun b H3 => if b = true then wi1 σ2 H3 fun J1 H4 => InW J1 g1 tt1 te vs1 σ2 D H4 Nx else Nx H3 := by
  refine ⟨fun i m H => i ≤ n ∧ m = n - i ∧ Pv i H, ⟨_, Nat.zero_le _, rfl, h0⟩, fun i m H ⟨h1, h2, h3⟩ => ?_⟩
  by_cases h : i = n
  · subst h
    exact .inl ⟨w.stops H (hg _ H (Nat.le_refl _) h3), hd H h3⟩
  · have hi : i < n := by omega
    exact .inr ⟨w.goes i H hi (hg i H h1 h3), Pv (i + 1), fun H' q => ⟨n - (i + 1), by omega, hi, rfl, q⟩, fun x H' hy => hs i x H H' hi h3 (w.yields i H x H' hi (hg i H h1 h3) hy)⟩
/-! ### a list of new tuples -/
structure TupL (H0 : Hp) (D : Addr) (l : List (List V)) (H : Hp) : Prop where
  sm : Same H0 H
  nD : H0 D = none
  ts : ∃ ts : List Addr, H D = some (.lst (ts.map V.ref)) ∧ ts.length = l.length ∧ ∀ (j : Nat) (t : Addr) (v : List V), ts[j]? = some t → l[j]? = some v → H t = some (.tup v)
theorem TupL.start {H0 : Hp} {D : Addr} (n : H0 D = none) : TupL H0 D [] (upd H0 D (.lst [])) := ⟨same_new n, n, [], upd_same, rfl, fun j t v h => by cases h⟩
theorem TupL.grow {H0 H H' : Hp} {D : Addr} {l : List (List V)} (o : TupL H0 D l H) (x : Same H H') : TupL H0 D l H' := by
  obtain ⟨ts, h1, h2, h3⟩ := o.ts
  exact ⟨fun b u e => x b u (o.sm b u e), o.nD, ts, x _ _ h1, h2, fun j t v e1 e2 => x _ _ (h3 j t v e1 e2)⟩
theorem TupL.more {H0 H : Hp} {D t : Addr} {l : List (List V)} {v : List V} (o : TupL H0 D l H) (ht : H t = some (.tup v)) : ∃ acc, H D = some (.lst acc) ∧ acc.length = l.length ∧ TupL H0 D (l ++ [v]) (upd H D (.lst (acc ++ [.ref t]))) := by
  obtain ⟨ts, h1, h2, h3⟩ := o.ts
  have tD : ∀ {t : Addr} {v : List V}, H t = some (.tup v) → t ≠ D := fun {t v} h z => by rw [z, h1] at h; cases h
  refine ⟨_, h1, by rw [List.length_map, h2], fun b u e => by rw [upd_ne (ne_of_none e o.nD)]; exact o.sm b u e, o.nD, ts ++ [t], by rw [upd_same]; simp, by rw [List.length_append, List.length_append, h2]; rfl, fun j s u e1 e2 => ?_⟩
  by_cases hj : j < ts.length
  · rw [List.getElem?_append_left hj] at e1
    rw [List.getElem?_append_left (by rw [← h2]; exact hj)] at e2
    have := h3 j s u e1 e2
    rw [upd_ne (tD this)]
    exact this
  · have hl := (List.getElem?_eq_some_iff.mp e1).1
    rw [List.length_append, List.length_singleton] at hl
    have ej : j = ts.length := by omega
    subst ej
    rw [List.getElem?_append_right (Nat.le_refl _), Nat.sub_self] at e1
    rw [h2, List.getElem?_append_right (Nat.le_refl _), Nat.sub_self] at e2
    cases e1
    cases e2
    rw [upd_ne (tD ht)]
    exact ht
/-! ### places -/
def rowSp (r : List Str) : List (Nat × Nat) := (List.range r.length).flatMap fun c => (List.range ((r.getD c nilS).length + 1)).map fun k => (c, k)
def pageSp (rows : List (List Str)) : List (Nat × Nat × Nat) := (List.range rows.length).flatMap fun i => (rowSp (rows.getD i [])).map fun p => (i, p.1, p.2)
abbrev v2 (p : Nat × Nat) : List V := [.int (p.1 : Nat), .int (p.2 : Nat)]
abbrev v3 (p : Nat × Nat × Nat) : List V := [.int (p.1 : Nat), .int (p.2.1 : Nat), .int (p.2.2 : Nat)]
def rowTo (r : List Str) (n : Nat) : List (Nat × Nat) := (List.range n).flatMap fun c => (List.range ((r.getD c nilS).length + 1)).map fun k => (c, k)
def pageTo (rows : List (List Str)) (n : Nat) : List (Nat × Nat × Nat) := (List.range n).flatMap fun i => (rowSp (rows.getD i [])).map fun p => (i, p.1, p.2)
theorem rowTo_succ (r : List Str) (n : Nat) : rowTo r (n + 1) = rowTo r n ++ (List.range ((r.getD n nilS).length + 1)).map fun k => (n, k) := by
  unfold rowTo
  rw [List.range_succ, List.flatMap_append]
  simp
theorem pageTo_succ (rows : List (List Str)) (n : Nat) : pageTo rows (n + 1) = pageTo rows n ++ (rowSp (rows.getD n [])).map fun p => (n, p.1, p.2) := by
  unfold pageTo
  rw [List.range_succ, List.flatMap_append]
  simp
theorem rowSp_len {r : List Str} (h : RowOk r) : ∀ {n : Nat}, n ≤ r.length → (rowTo r n).length ≤ 11 * n
  | 0, _ => by simp [rowTo]
  | n + 1, hn => by
    have ih := rowSp_len h (n := n) (by omega)
    have hc : n < r.length := by omega
    have := (h.cells _ (List.getElem_mem hc)).len
    have e : r.getD n nilS = r[n] := by rw [List.getD_eq_getElem?_getD, List.getElem?_eq_getElem hc]; rfl
    rw [rowTo_succ, List.length_append, List.length_map, List.length_range, e]
    omega
theorem pageSp_len {rows : List (List Str)} (h : PgOk rows) : ∀ {n : Nat}, n ≤ rows.length → (pageTo rows n).length ≤ 66 * n
  | 0, _ => by simp [pageTo]
  | n + 1, hn => by
    have ih := pageSp_len h (n := n) (by omega)
    have hc : n < rows.length := by omega
    have hr := h.rows _ (List.getElem_mem hc)
    have e : rows.getD n [] = rows[n] := by rw [List.getD_eq_getElem?_getD, List.getElem?_eq_getElem hc]; rfl
    have h1 := rowSp_len hr (Nat.le_refl _)
    have h2 := hr.len
    have h3 : rowSp rows[n] = rowTo rows[n] rows[n].length := rfl
    rw [pageTo_succ, List.length_append, List.length_map, e, h3]
    omega
theorem mem_rowSp {r : List Str} {c k : Nat} : (c, k) ∈ rowSp r ↔ c < r.length ∧ k ≤ (r.getD c nilS).length := by
  unfold rowSp
  rw [List.mem_flatMap]
  constructor
  · rintro ⟨a, h1, h2⟩
    obtain ⟨b, h3, h4⟩ := List.mem_map.mp h2
    injection h4 with h4 h5
    subst h4 h5
    rw [List.mem_range] at h1 h3
    exact ⟨h1, by omega⟩
  · rintro ⟨h1, h2⟩
    exact ⟨c, List.mem_range.mpr h1, List.mem_map.mpr ⟨k, List.mem_range.mpr (by omega), rfl⟩⟩
theorem mem_pageSp {rows : List (List Str)} {p : Nat × Nat × Nat} : p ∈ pageSp rows ↔ p.1 < rows.length ∧ (p.2.1, p.2.2) ∈ rowSp (rows.getD p.1 []) := by
  unfold pageSp
  rw [List.mem_flatMap]
  constructor
  · rintro ⟨a, h1, h2⟩
    obtain ⟨b, h3, rfl⟩ := List.mem_map.mp h2
    exact ⟨List.mem_range.mp h1, h3⟩
  · rintro ⟨h1, h2⟩
    exact ⟨p.1, List.mem_range.mpr h1, List.mem_map.mpr ⟨_, h2, rfl⟩⟩
theorem rowSp_nd (r : List Str) : (rowSp r).Nodup := by
  unfold rowSp
  refine List.pairwise_flatMap.mpr ⟨fun c _ => ?_, ?_⟩
  · rw [List.pairwise_map]
    refine List.nodup_range.imp fun h z => ?_
    injection z with _ z
    exact h z
  · refine List.nodup_range.imp fun h x hx y hy z => ?_
    obtain ⟨k, _, rfl⟩ := List.mem_map.mp hx
    obtain ⟨k', _, rfl⟩ := List.mem_map.mp hy
    injection z with z _
    exact h z
theorem pageSp_nd (rows : List (List Str)) : (pageSp rows).Nodup := by
  unfold pageSp
  refine List.pairwise_flatMap.mpr ⟨fun i _ => ?_, ?_⟩
  · rw [List.pairwise_map]
    refine (rowSp_nd _).imp fun {a b} h z => h ?_
    injection z with _ z
  · refine List.nodup_range.imp fun h x hx y hy z => ?_
    obtain ⟨k, _, rfl⟩ := List.mem_map.mp hx
    obtain ⟨k', _, rfl⟩ := List.mem_map.mp hy
    injection z with z _
    exact h z
/-- of one row's places those that are let by -/
theorem page_filter {rows : List (List Str)} {i : Nat} (hi : i < rows.length) (f : Nat × Nat → Bool) : (pageSp rows).filter (fun p => decide (p.1 = i) && f p.2) = ((rowSp (rows.getD i [])).filter f).map fun p => (i, p.1, p.2) := by
  have key : ∀ n, (pageTo rows n).filter (fun p => decide (p.1 = i) && f p.2) = if i < n then ((rowSp (rows.getD i [])).filter f).map fun p => (i, p.1, p.2) else [] := by
    intro n
    induction n with
    | zero => rfl
    | succ n ih =>
      rw [pageTo_succ, List.filter_append, ih, List.filter_map]
      by_cases h : n = i
      · subst h
        rw [if_neg (Nat.lt_irrefl _), if_pos (Nat.lt_succ_self _), List.nil_append]
        refine congrArg _ (List.filter_congr fun p _ => ?_)
        simp
      · have e : (rowSp (rows.getD n [])).filter ((fun p : Nat × Nat × Nat => decide (p.1 = i) && f p.2) ∘ fun p : Nat × Nat => (n, p.1, p.2)) = [] := by
          rw [List.filter_eq_nil_iff]
          intro p _
          simp [h]
        rw [e, List.map_nil, List.append_nil]
        by_cases h2 : i < n
        · rw [if_pos h2, if_pos (by omega)]
        · rw [if_neg h2, if_neg (by omega)]
  have := key rows.length
  rw [if_pos hi] at this
  exact this
end TGK

namespace EnT
open PySem PySem.Spec PyProof.Rows L2
/-! ### enumerate(zip(xs, ys)) over two lists -/
section
variable {prog : Program} {w : World} {A : Around} {E : Value → Shared → Prop} {s : Shared}
abbrev ZipU (h : Heap) (z TI TO : Addr) (p q : Value) : Prop := h.get? z = some { cls := .type "zip", dict := none, data := .fields #[p, q, .bool false, .ref TI, .ref TO], slots := #[] }
/-- a zip between two turns: its tuple is in, or out (and perhaps let go) -/
def ZipAt (h : Heap) (z TI TO i1 i2 l1 l2 : Addr) (i : Nat) : Prop := (ZipU h z TI TO .none (.bool false) ∨ ∃ (T : Addr) (f : Bool), ZipU h z TI TO (rawInt T) (.bool f)) ∧ IsPair h TI (.ref i1) (.ref i2) ∧ (∃ x y, IsPair h TO x y) ∧ h.IsListIter i1 l1 i ∧ h.IsListIter i2 l2 i
theorem tuple_gone {z TI TO T : Addr} {f : Bool} {R : Bool → Shared → Prop} (zz : ZipU s.heap z TI TO (rawInt T) (.bool f)) (no : s.heap.get? T = none) (k : R true s) : wpAny (model prog w) A (Builtin.SmallTypes.ownedTupleIsFree (.ref z)) R E s := by
  unfold Builtin.SmallTypes.ownedTupleIsFree
  refine wpAny_bind (wpAny_field zz rfl (x := rawInt T) rfl ?_)
  show wpAny _ _ (loadIfAlive ((T : Int).toNat) >>= _) _ _ s
  rw [Int.toNat_natCast]
  have gone : ∀ {R' : Option Obj → Shared → Prop}, R' none s → wpAny (model prog w) A (loadIfAlive T) R' E s := fun {R'} q => by
    have q' : R' (s.heap.get? T) s := by rw [no]; exact q
    exact fun _ _ _ => q'
  refine wpAny_bind (gone ?_)
  simp only [Option.isNone_none, if_true]
  exact wpAny_pure k
theorem zip_item_any {z TI TO i1 i2 l1 l2 : Addr} {k1 k2 : Nat} {xs ys : Array Value} {x y a b p q : Value} {Q : Value → Shared → Prop} (D : ZipApart z TI TO i1 i2 l1 l2)
    (zz : ZipU s.heap z TI TO p q) (fr : ∀ R : Bool → Shared → Prop, R true s → wpAny (model prog w) A (Builtin.SmallTypes.ownedTupleIsFree (.ref z)) R E s) (pI : IsPair s.heap TI (.ref i1) (.ref i2)) (pO : IsPair s.heap TO a b)
    (t1 : s.heap.IsListIter i1 l1 k1) (t2 : s.heap.IsListIter i2 l2 k2) (m1 : s.heap.IsList l1 xs) (m2 : s.heap.IsList l2 ys) (gx : xs[k1]? = some x) (gy : ys[k2]? = some y)
    (hQ : ∀ h', IsZip h' z TI TO (rawInt s.heap.objs.size) → IsPair h' TO x y → h'.IsListIter i1 l1 (k1 + 1) → h'.IsListIter i2 l2 (k2 + 1) → IsPair h' s.heap.objs.size x y → h'.objs.size = s.heap.objs.size + 1 →
      (∀ c o, c ≠ z → c ≠ TO → c ≠ i1 → c ≠ i2 → s.heap.get? c = some o → h'.get? c = some o) → Q (.ref s.heap.objs.size) { s with heap := h' }) :
    wpAny (model prog w) A (Builtin.«zip.__next__» ⟨[.ref z], []⟩) (fun fin s' => ∃ v, fin = .done (.ret v) ∧ Q v s') E s := by
  show wpAny _ _ (field (.ref z) 2 >>= _) _ _ s
  refine wpAny_bind (wpAny_field zz rfl (x := .bool false) rfl ?_)
  show wpAny _ _ (field (.ref z) 3 >>= _) _ _ s
  refine wpAny_bind (wpAny_field zz rfl (x := .ref TI) rfl ?_)
  refine wpAny_bind (wpAny_seqItems pI rfl ?_)
  show wpAny _ _ (Builtin.SmallTypes.ownedTupleIsFree (.ref z) >>= _) _ _ s
  refine wpAny_bind (fr _ ?_)
  simp only [if_true]
  refine wpAny_bind (wpAny_rule (wpAny_bind (wpAny_field zz rfl (x := .ref TO) rfl ?_)))
  refine wpAny_bind (wpAny_setField_rec zz (by simp) fun g1 z1 s1 => ?_)
  replace z1 : ZipU g1 z TI TO .ellipsis q := z1
  refine wpAny_bind ?_
  simp only [List.zipIdx_cons, List.zipIdx_nil, List.forIn_cons, List.forIn_nil]
  refine wpAny_bind (wpAny_bind (wpAny_onRaise ?_))
  show wpAny _ _ (Builtin.SmallTypes.nextOf (.ref i1) >>= _) _ _ { s with heap := g1 }
  refine wpAny_bind (wpAny_nextOf_list_item (s := { s with heap := g1 }) (t1.extBut s1.extBut D.i1z) (m1.extBut s1.extBut D.l1z) gx fun g2 u1 s2 => wpAny_pure ?_)
  have o2 : IsPair g2 TO a b := s2.extBut _ _ D.TOi1 (s1.extBut _ _ D.TOz pO)
  refine wpAny_bind (wpAny_seqItems (s := { s with heap := g2 }) o2 rfl (wpAny_bind (wpAny_updateSeq_pair (s := { s with heap := g2 }) o2 fun g3 o3 s3 => ?_)))
  replace o3 : IsPair g3 TO x b := o3
  refine wpAny_bind (wpAny_letGo (wpAny_pure (wpAny_bind (wpAny_bind (wpAny_onRaise ?_)))))
  show wpAny _ _ (Builtin.SmallTypes.nextOf (.ref i2) >>= _) _ _ { s with heap := g3 }
  refine wpAny_bind (wpAny_nextOf_list_item (s := { s with heap := g3 }) (((t2.extBut s1.extBut D.i2z).extBut s2.extBut D.i12.symm).extBut s3.extBut D.TOi2.symm) (((m2.extBut s1.extBut D.l2z).extBut s2.extBut D.l2i1).extBut s3.extBut D.l2TO) gy fun g4 u2 s4 => wpAny_pure ?_)
  have o4 : IsPair g4 TO x b := s4.extBut _ _ D.TOi2 o3
  refine wpAny_bind (wpAny_seqItems (s := { s with heap := g4 }) o4 rfl (wpAny_bind (wpAny_updateSeq_pair (s := { s with heap := g4 }) o4 fun g5 o5 s5 => ?_)))
  replace o5 : IsPair g5 TO x y := o5
  refine wpAny_bind (wpAny_letGo (wpAny_pure (wpAny_pure (wpAny_bind (wpAny_seqItems (s := { s with heap := g5 }) o5 rfl (wpAny_bind (wpAny_newTuple ?_)))))))
  have z5 : ZipU g5 z TI TO .ellipsis q := s5.extBut _ _ D.TOz.symm (s4.extBut _ _ D.i2z.symm (s3.extBut _ _ D.TOz.symm (s2.extBut _ _ D.i1z.symm z1)))
  have sz5 : g5.objs.size = s.heap.objs.size := by rw [s5.1, s4.1, s3.1, s2.1, s1.1]
  have up5 : ∀ c o, c ≠ z → c ≠ TO → c ≠ i1 → c ≠ i2 → s.heap.get? c = some o → g5.get? c = some o := fun c o c1 c2 c3 c4 e => s5.extBut _ _ c2 (s4.extBut _ _ c4 (s3.extBut _ _ c2 (s2.extBut _ _ c3 (s1.extBut _ _ c1 e))))
  have v1 : g5.IsListIter i1 l1 (k1 + 1) := ((u1.extBut s3.extBut D.TOi1.symm).extBut s4.extBut D.i12).extBut s5.extBut D.TOi1.symm
  have v2 : g5.IsListIter i2 l2 (k2 + 1) := u2.extBut s5.extBut D.TOi2.symm
  have ltz : z < g5.objs.size := Heap.lt_size z5
  show wpAny _ _ (Builtin.SmallTypes.ownedTupleHandOut (.ref z) (.ref g5.objs.size) >>= _) _ _ { s with heap := g5.push { cls := .type "tuple", data := .seq #[x, y] } }
  refine wpAny_bind ?_
  unfold Builtin.SmallTypes.ownedTupleHandOut
  have z6 : ZipU (g5.push { cls := .type "tuple", data := .seq #[x, y] }) z TI TO .ellipsis q := Heap.get?_push_of_some _ z5
  refine wpAny_bind (wpAny_setField_rec (s := { s with heap := g5.push { cls := .type "tuple", data := .seq #[x, y] } }) z6 (by simp) fun g7 z7 s7 => ?_)
  replace z7 : ZipU g7 z TI TO (rawInt g5.objs.size) q := z7
  refine wpAny_setField_rec (s := { s with heap := g7 }) z7 (by simp) fun g8 z8 s8 => ?_
  replace z8 : IsZip g8 z TI TO (rawInt g5.objs.size) := z8
  have up8 : ∀ c o, c ≠ z → g5.get? c = some o → g8.get? c = some o := fun c o c1 e => s8.extBut _ _ c1 (s7.extBut _ _ c1 (Heap.get?_push_of_some _ e))
  have T8 : IsPair g8 g5.objs.size x y := s8.extBut _ _ (Nat.ne_of_gt ltz) (s7.extBut _ _ (Nat.ne_of_gt ltz) (Heap.get?_push_size _ rfl))
  have sz8 : g8.objs.size = g5.objs.size + 1 := by rw [s8.1, s7.1, Heap.size_push]
  rw [sz5] at z8 T8 sz8
  refine wpAny_pure ⟨_, rfl, ?_⟩
  show Q (.ref g5.objs.size) { s with heap := g8 }
  rw [sz5]
  exact hQ g8 z8 (up8 _ _ D.TOz o5) (v1.at fun o e => up8 _ o D.i1z e) (v2.at fun o e => up8 _ o D.i2z e) T8 sz8 fun c o c1 c2 c3 c4 e => up8 c o c1 (up5 c o c1 c2 c3 c4 e)
theorem zip_end_any {z TI TO i1 i2 l1 l2 : Addr} {k1 k2 : Nat} {xs ys : Array Value} {a b p q : Value} {Q : Fin → Shared → Prop} (hh : A.handled = none) (D : ZipApart z TI TO i1 i2 l1 l2)
    (zz : ZipU s.heap z TI TO p q) (fr : ∀ R : Bool → Shared → Prop, R true s → wpAny (model prog w) A (Builtin.SmallTypes.ownedTupleIsFree (.ref z)) R E s) (pI : IsPair s.heap TI (.ref i1) (.ref i2)) (pO : IsPair s.heap TO a b)
    (t1 : s.heap.IsListIter i1 l1 k1) (t2 : s.heap.IsListIter i2 l2 k2) (m1 : s.heap.IsList l1 xs) (m2 : s.heap.IsList l2 ys) (ge : xs[k1]? = none ∨ ys[k2]? = none)
    (hE : ∀ h' e, (∀ c o, c ≠ z → c ≠ TO → c ≠ i1 → c ≠ i2 → s.heap.get? c = some o → h'.get? c = some o) → (∃ o, h'.get? e = some o ∧ o.cls = .type "StopIteration") → E (.ref e) { s with heap := h' }) :
    wpAny (model prog w) A (Builtin.«zip.__next__» ⟨[.ref z], []⟩) Q E s := by
  show wpAny _ _ (field (.ref z) 2 >>= _) _ _ s
  refine wpAny_bind (wpAny_field zz rfl (x := .bool false) rfl ?_)
  show wpAny _ _ (field (.ref z) 3 >>= _) _ _ s
  refine wpAny_bind (wpAny_field zz rfl (x := .ref TI) rfl (wpAny_bind (wpAny_seqItems pI rfl ?_)))
  show wpAny _ _ (Builtin.SmallTypes.ownedTupleIsFree (.ref z) >>= _) _ _ s
  refine wpAny_bind (fr _ ?_)
  simp only [if_true]
  refine wpAny_bind (wpAny_rule (wpAny_bind (wpAny_field zz rfl (x := .ref TO) rfl (wpAny_bind (wpAny_setField_rec zz (by simp) fun g1 z1 s1 => ?_)))))
  replace z1 : ZipU g1 z TI TO .ellipsis q := z1
  refine wpAny_bind ?_
  simp only [List.zipIdx_cons, List.zipIdx_nil, List.forIn_cons, List.forIn_nil]
  refine wpAny_bind (wpAny_bind (wpAny_onRaise ?_))
  show wpAny _ _ (Builtin.SmallTypes.nextOf (.ref i1) >>= _) _ _ { s with heap := g1 }
  cases gx : xs[k1]? with
  | none =>
    refine wpAny_bind (wpAny_nextOf_list_end (s := { s with heap := g1 }) hh (t1.extBut s1.extBut D.i1z) (m1.extBut s1.extBut D.l1z) gx fun g2 er s2 he => ?_)
    obtain ⟨oe, ho, hc⟩ := he
    have z2 : ZipU g2 z TI TO .ellipsis q := s2 _ _ D.i1z.symm z1
    have ez : er ≠ z := fun x => by subst x; rw [z2] at ho; cases ho; simp at hc
    exact wpAny_setField_rec (s := { s with heap := g2 }) z2 (by simp) fun g3 _ s3 => hE g3 er (fun c o c1 _ c3 _ x => s3.extBut _ _ c1 (s2 _ _ c3 (s1.extBut _ _ c1 x))) ⟨oe, s3.extBut _ _ ez ho, hc⟩
  | some x =>
    have gy : ys[k2]? = none := by rcases ge with h | h; (rw [gx] at h; cases h); exact h
    refine wpAny_bind (wpAny_nextOf_list_item (s := { s with heap := g1 }) (t1.extBut s1.extBut D.i1z) (m1.extBut s1.extBut D.l1z) gx fun g2 u1 s2 => wpAny_pure ?_)
    have o2 : IsPair g2 TO a b := s2.extBut _ _ D.TOi1 (s1.extBut _ _ D.TOz pO)
    refine wpAny_bind (wpAny_seqItems (s := { s with heap := g2 }) o2 rfl (wpAny_bind (wpAny_updateSeq_pair (s := { s with heap := g2 }) o2 fun g3 o3 s3 => ?_)))
    refine wpAny_bind (wpAny_letGo (wpAny_pure (wpAny_bind (wpAny_bind (wpAny_onRaise ?_)))))
    show wpAny _ _ (Builtin.SmallTypes.nextOf (.ref i2) >>= _) _ _ { s with heap := g3 }
    refine wpAny_bind (wpAny_nextOf_list_end (s := { s with heap := g3 }) hh (((t2.extBut s1.extBut D.i2z).extBut s2.extBut D.i12.symm).extBut s3.extBut D.TOi2.symm) (((m2.extBut s1.extBut D.l2z).extBut s2.extBut D.l2i1).extBut s3.extBut D.l2TO) gy fun g4 er s4 he => ?_)
    obtain ⟨oe, ho, hc⟩ := he
    have z4 : ZipU g4 z TI TO .ellipsis q := s4 _ _ D.i2z.symm (s3.extBut _ _ D.TOz.symm (s2.extBut _ _ D.i1z.symm z1))
    have ez : er ≠ z := fun x => by subst x; rw [z4] at ho; cases ho; simp at hc
    exact wpAny_setField_rec (s := { s with heap := g4 }) z4 (by simp) fun g5 _ s5 => hE g5 er (fun c o c1 c2 c3 c4 x => s5.extBut _ _ c1 (s4 _ _ c4 (s3.extBut _ _ c2 (s2.extBut _ _ c3 (s1.extBut _ _ c1 x))))) ⟨oe, s5.extBut _ _ ez ho, hc⟩
/-- one pair is drawn -/
theorem zip_draw {z TI TO i1 i2 l1 l2 : Addr} {i : Nat} {xs ys : Array Value} {x y : Value} {Q : Value → Shared → Prop} (D : ZipApart z TI TO i1 i2 l1 l2) (st : ZipAt s.heap z TI TO i1 i2 l1 l2 i)
    (m1 : s.heap.IsList l1 xs) (m2 : s.heap.IsList l2 ys) (gx : xs[i]? = some x) (gy : ys[i]? = some y)
    (hQ : ∀ h', ZipAt h' z TI TO i1 i2 l1 l2 (i + 1) → IsPair h' s.heap.objs.size x y → h'.objs.size = s.heap.objs.size + 1 →
      (∀ c o, c ≠ z → c ≠ TO → c ≠ i1 → c ≠ i2 → s.heap.get? c = some o → h'.get? c = some o) → Q (.ref s.heap.objs.size) { s with heap := h' }) :
    wpAny (model prog w) A (Builtin.SmallTypes.nextOf (.ref z)) Q E s := by
  obtain ⟨hz, pI, ⟨a, b, pO⟩, t1, t2⟩ := st
  have ty : s.TypeIs (.ref z) "zip" := by
    rcases hz with h | ⟨_, _, h⟩
    · exact ⟨_, h, rfl⟩
    · exact ⟨_, h, rfl⟩
  unfold Builtin.SmallTypes.nextOf
  refine wpAny_bind (wpAny_callSpecial?_slot (name := Str.ofString "__next__") ty F.slot_zip_next (wpAny_call_entry F.slot_zip_next ty F.entry_zip_next ?_ (F.args_zip_next_1 _)))
  have keepI : ∀ {h' : Heap}, (∀ c o, c ≠ z → c ≠ TO → c ≠ i1 → c ≠ i2 → s.heap.get? c = some o → h'.get? c = some o) → IsPair h' TI (.ref i1) (.ref i2) := fun k => k _ _ D.TIz D.TITO D.TIi1 D.TIi2 pI
  rcases hz with h | ⟨T, f, h⟩
  · refine zip_item_any D h (fun R k => ?_) pI pO t1 t2 m1 m2 gx gy fun h' b1 b2 b3 b4 b5 b6 b7 => wpAny_pure (hQ h' ⟨.inr ⟨_, _, b1⟩, keepI b7, ⟨_, _, b2⟩, b3, b4⟩ b5 b6 b7)
    unfold Builtin.SmallTypes.ownedTupleIsFree
    exact wpAny_bind (wpAny_field h rfl (x := .none) rfl (wpAny_pure k))
  · cases al : s.heap.get? T with
    | none => exact zip_item_any D h (fun R k => tuple_gone h al k) pI pO t1 t2 m1 m2 gx gy fun h' b1 b2 b3 b4 b5 b6 b7 => wpAny_pure (hQ h' ⟨.inr ⟨_, _, b1⟩, keepI b7, ⟨_, _, b2⟩, b3, b4⟩ b5 b6 b7)
    | some oT => exact zip_next_item_held D h al pI t1 t2 m1 m2 gx gy fun h' b1 b3 b4 b5 b6 b7 => wpAny_pure (hQ h' ⟨.inr ⟨_, _, b1⟩, keepI fun c o c1 _ c3 c4 e => b7 c o c1 c3 c4 e, ⟨_, _, b7 _ _ D.TOz D.TOi1 D.TOi2 pO⟩, b3, b4⟩ b5 b6 fun c o c1 _ c3 c4 e => b7 c o c1 c3 c4 e)
theorem zip_over {z TI TO i1 i2 l1 l2 : Addr} {i : Nat} {xs ys : Array Value} {Q : Value → Shared → Prop} (hh : A.handled = none) (D : ZipApart z TI TO i1 i2 l1 l2) (st : ZipAt s.heap z TI TO i1 i2 l1 l2 i)
    (m1 : s.heap.IsList l1 xs) (m2 : s.heap.IsList l2 ys) (ge : xs[i]? = none ∨ ys[i]? = none)
    (hE : ∀ h' e, (∀ c o, c ≠ z → c ≠ TO → c ≠ i1 → c ≠ i2 → s.heap.get? c = some o → h'.get? c = some o) → (∃ o, h'.get? e = some o ∧ o.cls = .type "StopIteration") → E (.ref e) { s with heap := h' }) :
    wpAny (model prog w) A (Builtin.SmallTypes.nextOf (.ref z)) Q E s := by
  obtain ⟨hz, pI, ⟨a, b, pO⟩, t1, t2⟩ := st
  have ty : s.TypeIs (.ref z) "zip" := by
    rcases hz with h | ⟨_, _, h⟩
    · exact ⟨_, h, rfl⟩
    · exact ⟨_, h, rfl⟩
  unfold Builtin.SmallTypes.nextOf
  refine wpAny_bind (wpAny_callSpecial?_slot (name := Str.ofString "__next__") ty F.slot_zip_next (wpAny_call_entry F.slot_zip_next ty F.entry_zip_next ?_ (F.args_zip_next_1 _)))
  rcases hz with h | ⟨T, f, h⟩
  · refine zip_end_any hh D h (fun R k => ?_) pI pO t1 t2 m1 m2 ge hE
    unfold Builtin.SmallTypes.ownedTupleIsFree
    exact wpAny_bind (wpAny_field h rfl (x := .none) rfl (wpAny_pure k))
  · cases al : s.heap.get? T with
    | none => exact zip_end_any hh D h (fun R k => tuple_gone h al k) pI pO t1 t2 m1 m2 ge hE
    | some oT => exact zip_next_end_held hh D h al pI t1 t2 m1 m2 ge fun h' e b1 b2 => hE h' e (fun c o c1 _ c3 c4 e => b1 c o c1 c3 c4 e) b2
/-- a turn of enumerate over anything that is drawn -/
theorem enum_turn {e it : Addr} {i : Nat} {old x : Value} {G : Heap → Prop} {Q : Option Value → Shared → Prop} (he : IsEnum s.heap e it (i : Nat) old)
    (draw : ∀ (B : Around) (E' : Value → Shared → Prop) (R : Value → Shared → Prop), (∀ h1, G h1 → IsEnum h1 e it (i : Nat) old → R x { s with heap := h1 }) → wpAny (model prog w) B (Builtin.SmallTypes.nextOf (.ref it)) R E' s)
    (hQ : ∀ h1 h', G h1 → IsEnumOut h' e it ((i : Int) + 1) x h1.objs.size → h'.get? h1.objs.size = some { cls := .type "tuple", data := .seq #[.int i s.toks, x] } → h'.objs.size = h1.objs.size + 1 →
      (∀ b o, b ≠ e → h1.get? b = some o → h'.get? b = some o) → Q (some (.ref h1.objs.size)) { s with heap := h', toks := s.toks + 1 }) :
    wpAny (model prog w) A (pyNext (.ref e)) Q E s := by
  have ty : s.TypeIs (.ref e) "enumerate" := ⟨_, he, rfl⟩
  unfold pyNext
  refine wpAny_bind (wpAny_attempt (wpAny_callSpecial?_slot (name := Str.ofString "__next__") ty F.slot_enumerate_next (wpAny_call_entry F.slot_enumerate_next ty F.entry_enumerate_next ?_ (F.args_enumerate_next_1 _))))
  show wpAny _ _ (field (.ref e) 2 >>= _) _ _ s
  refine wpAny_bind (wpAny_field he rfl (x := .ref it) rfl (wpAny_bind (draw _ _ _ fun h1 hG e1 => ?_)))
  show wpAny _ _ (field (.ref e) 3 >>= _) _ _ { s with heap := h1 }
  refine wpAny_bind (wpAny_field (s := { s with heap := h1 }) e1 rfl (x := rawInt i) rfl ?_)
  show wpAny _ _ (field (.ref e) 4 >>= _) _ _ { s with heap := h1 }
  refine wpAny_bind (wpAny_field (s := { s with heap := h1 }) e1 rfl (x := .none) rfl ?_)
  show wpAny _ _ (mkInt i >>= _) _ _ { s with heap := h1 }
  refine wpAny_bind (wpAny_mkInt ?_)
  show wpAny _ _ (setField (.ref e) 3 (rawInt ((i : Int) + 1)) >>= _) _ _ { s with heap := h1, toks := s.toks + 1 }
  refine wpAny_bind (wpAny_setField_rec (s := { s with heap := h1, toks := s.toks + 1 }) e1 (by simp) fun h2 e2 s2 => ?_)
  replace e2 : IsEnum h2 e it ((i : Int) + 1) old := e2
  show wpAny _ _ (setField (.ref e) 4 .none >>= _) _ _ { s with heap := h2, toks := s.toks + 1 }
  refine wpAny_bind (wpAny_setField_rec (s := { s with heap := h2, toks := s.toks + 1 }) e2 (by simp) fun h3 e3 s3 => ?_)
  replace e3 : IsEnum h3 e it ((i : Int) + 1) old := e3
  show wpAny _ _ (newTuple [.int i s.toks, x] >>= _) _ _ { s with heap := h3, toks := s.toks + 1 }
  refine wpAny_bind (wpAny_newTuple ?_)
  have e4 : IsEnum (h3.push { cls := .type "tuple", data := .seq #[.int i s.toks, x] }) e it ((i : Int) + 1) old := Heap.get?_push_of_some _ e3
  have t4 : (h3.push { cls := .type "tuple", data := .seq #[.int i s.toks, x] }).get? h3.objs.size = some { cls := .type "tuple", data := .seq #[.int i s.toks, x] } := Heap.get?_push_size _ rfl
  have n4 : (h3.push { cls := .type "tuple", data := .seq #[.int i s.toks, x] }).objs.size = h3.objs.size + 1 := Heap.size_push ..
  have k4 : ∀ b o, b ≠ e → h1.get? b = some o → (h3.push { cls := .type "tuple", data := .seq #[.int i s.toks, x] }).get? b = some o := fun b o hb q => Heap.get?_push_of_some _ (s3.extBut b o hb (s2.extBut b o hb q))
  have z3 : h3.objs.size = h1.objs.size := by rw [s3.1, s2.1]
  rw [z3] at t4 n4
  have le : e < h1.objs.size := Heap.lt_size e1
  show wpAny _ _ (Builtin.SmallTypes.ownedTupleIsFree (.ref e) >>= _) _ _ { s with heap := h3.push { cls := .type "tuple", data := .seq #[.int i s.toks, x] }, toks := s.toks + 1 }
  rw [z3]
  generalize h3.push { cls := .type "tuple", data := .seq #[.int i s.toks, x] } = h4 at e4 t4 n4 k4 ⊢
  refine wpAny_bind ?_
  unfold Builtin.SmallTypes.ownedTupleIsFree
  refine wpAny_bind (wpAny_field (s := { s with heap := h4, toks := s.toks + 1 }) e4 rfl (x := .none) rfl (wpAny_pure ?_))
  simp only [if_true]
  refine wpAny_bind (wpAny_rule (wpAny_bind (wpAny_field (s := { s with heap := h4, toks := s.toks + 1 }) e4 rfl (x := old) rfl ?_)))
  refine wpAny_bind (wpAny_setField_rec (s := { s with heap := h4, toks := s.toks + 1 }) e4 (by simp) fun h5 e5 s5 => ?_)
  replace e5 : IsEnum h5 e it ((i : Int) + 1) x := e5
  show wpAny _ _ (Builtin.SmallTypes.ownedTupleHandOut (.ref e) (.ref h1.objs.size) >>= _) _ _ { s with heap := h5, toks := s.toks + 1 }
  refine wpAny_bind ?_
  unfold Builtin.SmallTypes.ownedTupleHandOut
  refine wpAny_bind (wpAny_setField_rec (s := { s with heap := h5, toks := s.toks + 1 }) e5 (by simp) fun h6 e6 s6 => ?_)
  replace e6 : IsEnumOut h6 e it ((i : Int) + 1) x h1.objs.size := e6
  refine wpAny_setField_rec (s := { s with heap := h6, toks := s.toks + 1 }) e6 (by simp) fun h7 e7 s7 => ?_
  replace e7 : IsEnumOut h7 e it ((i : Int) + 1) x h1.objs.size := e7
  refine wpAny_bind (wpAny_letGo (wpAny_pure ⟨_, rfl, wpAny_pure (hQ h1 h7 hG e7 ?_ ?_ ?_)⟩))
  · exact s7.extBut _ _ (Nat.ne_of_gt le) (s6.extBut _ _ (Nat.ne_of_gt le) (s5.extBut _ _ (Nat.ne_of_gt le) t4))
  · rw [s7.1, s6.1, s5.1, n4]
  · exact fun b o hb q => s7.extBut b o hb (s6.extBut b o hb (s5.extBut b o hb (k4 b o hb q)))
theorem enum_over {e it : Addr} {i : Nat} {old : Value} {G : Heap → Prop} {Q : Option Value → Shared → Prop} (he : IsEnum s.heap e it (i : Nat) old)
    (draw : ∀ (B : Around) (E' : Value → Shared → Prop) (R : Value → Shared → Prop), B.handled = A.handled → (∀ h1 er, G h1 → (∃ o, h1.get? er = some o ∧ o.cls = .type "StopIteration") → E' (.ref er) { s with heap := h1 }) → wpAny (model prog w) B (Builtin.SmallTypes.nextOf (.ref it)) R E' s)
    (hQ : ∀ h1, G h1 → Q none { s with heap := h1 }) : wpAny (model prog w) A (pyNext (.ref e)) Q E s := by
  have ty : s.TypeIs (.ref e) "enumerate" := ⟨_, he, rfl⟩
  unfold pyNext
  refine wpAny_bind (wpAny_attempt (wpAny_callSpecial?_slot (name := Str.ofString "__next__") ty F.slot_enumerate_next (wpAny_call_entry F.slot_enumerate_next ty F.entry_enumerate_next ?_ (F.args_enumerate_next_1 _))))
  show wpAny _ _ (field (.ref e) 2 >>= _) _ _ s
  refine wpAny_bind (wpAny_field he rfl (x := .ref it) rfl (wpAny_bind (draw _ _ _ rfl fun h1 er hG hx => ?_)))
  obtain ⟨o, ho, hc⟩ := hx
  exact wpAny_bind (wpAny_isInstance (T := "StopIteration") (b := true) ⟨o, ho, hc⟩ isSubtype_stop (wpAny_pure (hQ h1 hG)))
end
/-- the lists at a and b as they stand at each turn, the items in new pairs, these behind their number -/
def Itez (K : PySem.W.Frag) (a b : Addr) : It where
  go := fun i H => ∃ (xs ys : List V) (x y : V), SqL K H a xs ∧ SqL K H b ys ∧ xs[i]? = some x ∧ ys[i]? = some y
  yld := fun i H v H' => ∃ (S T : Addr) (x y : V), v = .ref T ∧ H S = none ∧ upd H S (.tup [x, y]) T = none ∧ H' = upd (upd H S (.tup [x, y])) T (.tup [.int (i : Nat), .ref S]) ∧ (∀ xs, SqL K H a xs → xs[i]? = some x) ∧ ∀ ys, SqL K H b ys → ys[i]? = some y
  stop := fun i H => ∃ xs ys : List V, SqL K H a xs ∧ SqL K H b ys ∧ (xs.length ≤ i ∨ ys.length ≤ i)
theorem turn_ez {P : Program} {w : World} {K : PySem.W.Frag} {elts : List Expr} {kk : Nat} {tpos : Pos} {a b e z TI TO i1 i2 : Addr} (D : ZipApart z TI TO i1 i2 a b) (ne : e ∉ [z, TI, TO, i1, i2]) :
    Turn P w K (.Tuple elts kk tpos) (Itez K a b) [e, z, TI, TO, i1, i2] e fun i h => (∃ old, IsEnum h e z (i : Nat) old) ∧ ZipAt h z TI TO i1 i2 a b i where
  mem := List.mem_cons_self ..
  obj := fun i h st c hc => by
    obtain ⟨⟨old, he⟩, hz, pI, ⟨x, y, pO⟩, ⟨o1, e1, _, d1⟩, ⟨o2, e2, _, d2⟩⟩ := st
    simp only [List.mem_cons, List.not_mem_nil, or_false] at hc
    rcases hc with q | q | q | q | q | q
    · rw [q]; exact ⟨_, he, fun v q => nomatch q⟩
    · rw [q]
      rcases hz with h | ⟨_, _, h⟩
      · exact ⟨_, h, fun v q => nomatch q⟩
      · exact ⟨_, h, fun v q => nomatch q⟩
    · rw [q]; exact ⟨_, pI, fun v q => nomatch q⟩
    · rw [q]; exact ⟨_, pO, fun v q => nomatch q⟩
    · rw [q]; exact ⟨o1, e1, fun v q => by rw [d1] at q; cases q⟩
    · rw [q]; exact ⟨o2, e2, fun v q => by rw [d2] at q; cases q⟩
  keep := fun i h h' st k => by
    obtain ⟨⟨old, he⟩, hz, pI, ⟨x, y, pO⟩, h1, h2⟩ := st
    refine ⟨⟨old, k e (by simp) _ he⟩, ?_, k TI (by simp) _ pI, ⟨x, y, k TO (by simp) _ pO⟩, h1.at fun o q => k i1 (by simp) o q, h2.at fun o q => k i2 (by simp) o q⟩
    rcases hz with h | ⟨T, f, h⟩
    · exact .inl (k z (by simp) _ h)
    · exact .inr ⟨T, f, k z (by simp) _ h⟩
  item := by
    intro X hP hw hK hc i pins s σ H E I hf st hg
    subst hP hw hK
    obtain ⟨⟨old, he⟩, zt⟩ := st
    obtain ⟨xs, ys, x, y, hqx, hqy, hx, hy⟩ := hg
    obtain ⟨its, rv, p, _⟩ := I.list hqx
    obtain ⟨its2, rv2, p2, _⟩ := I.list hqy
    obtain ⟨u, hu, ru⟩ := rv.get hx
    obtain ⟨u2, hu2, ru2⟩ := rv2.get hy
    have nez : e ≠ z := fun q => ne (by simp [q])
    have neO : e ≠ TO := fun q => ne (by simp [q])
    have ne1 : e ≠ i1 := fun q => ne (by simp [q])
    have ne2 : e ≠ i2 := fun q => ne (by simp [q])
    have lt : ∀ {c o}, s.heap.get? c = some o → c < s.heap.objs.size := fun q => Heap.lt_size q
    have fpl : ∀ c ∈ [e, z, TI, TO, i1, i2], c < s.heap.objs.size := fun c hcm => by
      obtain ⟨hz, pI, ⟨x, y, pO⟩, ⟨_, e1, _⟩, ⟨_, e2, _⟩⟩ := zt
      simp only [List.mem_cons, List.not_mem_nil, or_false] at hcm
      rcases hcm with q | q | q | q | q | q
      · rw [q]; exact lt he
      · rw [q]
        rcases hz with h | ⟨_, _, h⟩
        · exact lt h
        · exact lt h
      · rw [q]; exact lt pI
      · rw [q]; exact lt pO
      · rw [q]; exact lt e1
      · rw [q]; exact lt e2
    refine enum_turn (x := .ref s.heap.objs.size) (G := fun h1 => ZipAt h1 z TI TO i1 i2 a b (i + 1) ∧ IsPair h1 s.heap.objs.size u u2 ∧ h1.objs.size = s.heap.objs.size + 1 ∧ ∀ c o, c ≠ z → c ≠ TO → c ≠ i1 → c ≠ i2 → s.heap.get? c = some o → h1.get? c = some o) he
      (fun B E' R k => zip_draw D zt p.isList p2.isList (x := u) (y := u2) (by simpa using hu) (by simpa using hu2) fun h1 g1 g2 g3 g4 => k h1 ⟨g1, g2, g3, g4⟩ (g4 e _ nez neO ne1 ne2 he)) fun h1 h' hG ho hT hsz hk => ⟨_, rfl, ?_⟩
    obtain ⟨g1, g2, g3, g4⟩ := hG
    refine wpAny_letOwnedTupleGo_enum (s := { s with heap := h', toks := s.toks + 1 }) ho fun h'' he'' sb => ?_
    have kk2 : ∀ c o, c ≠ e → h1.get? c = some o → h''.get? c = some o := fun c o hne q => (sb.2 c hne).trans (hk c o hne q)
    have I1 : Inv X pins σ (upd H s.heap.objs.size (.tup [x, y])) { s with heap := h1 } :=
      I.turnedNew (t' := s.toks) (ch := [z, TO, i1, i2]) (fun c o hb q => g4 c o (fun q' => hb (by simp [q'])) (fun q' => hb (by simp [q'])) (fun q' => hb (by simp [q'])) (fun q' => hb (by simp [q'])) q) (fun c hcm => hf c (by
        simp only [List.mem_cons, List.not_mem_nil, or_false] at hcm ⊢
        rcases hcm with q | q | q | q <;> simp [q])) (Nat.le_refl _)
        ⟨by show 2 ≤ sizeLine; decide, [u, u2], .cons ru (.cons ru2 .nil), ⟨_, g2, rfl, _, rfl⟩⟩
    have nS : H s.heap.objs.size = none := I.hok.fresh (Nat.le_refl _)
    have hel : e < s.heap.objs.size := lt he
    have fe := hf e (List.mem_cons_self ..)
    have T2 : h''.get? h1.objs.size = some { cls := .type "tuple", data := .seq #[.int i s.toks, .ref s.heap.objs.size] } := (sb.2 _ (Nat.ne_of_gt (Nat.lt_of_lt_of_le hel (by rw [g3]; exact Nat.le_succ _)))).trans hT
    have I2 : Inv X pins σ (upd (upd H s.heap.objs.size (.tup [x, y])) h1.objs.size (.tup [.int (i : Nat), .ref s.heap.objs.size])) { s with heap := h'', toks := s.toks + 1 } :=
      I1.turnedNew (t' := s.toks + 1) (ch := [e]) (fun c o hb q => kk2 c o (by simpa using hb) q) (fun c hcm => by
        have hce : c = e := by simpa using hcm
        subst hce
        exact ⟨by rw [upd_ne (Nat.ne_of_lt hel)]; exact fe.1, fe.2⟩) (Nat.le_refl _)
        ⟨by show 2 ≤ sizeLine; decide, [.int i s.toks, .ref s.heap.objs.size], .cons ⟨s.toks, rfl⟩ (.cons rfl .nil), ⟨_, T2, rfl, _, rfl⟩⟩
    refine ⟨.ref h1.objs.size, _, I2, rfl, ⟨s.heap.objs.size, h1.objs.size, x, y, rfl, nS, I1.hok.fresh (Nat.le_refl _), rfl, fun l hl => by rw [I.list_inj hl hqx]; exact hx, fun l hl => by rw [I.list_inj hl hqy]; exact hy⟩, ⟨⟨_, he''⟩, ?_⟩, fun c hcm => ?_⟩
    · obtain ⟨hz, pI, ⟨x', y', pO⟩, h1', h2'⟩ := g1
      have nTI : TI ≠ e := fun q => ne (by simp [q])
      refine ⟨?_, kk2 _ _ nTI pI, ⟨x', y', kk2 _ _ neO.symm pO⟩, h1'.at fun o q => kk2 i1 o ne1.symm q, h2'.at fun o q => kk2 i2 o ne2.symm q⟩
      rcases hz with h | ⟨T, f, h⟩
      · exact .inl (kk2 z _ nez.symm h)
      · exact .inr ⟨T, f, kk2 z _ nez.symm h⟩
    · have hlt := fpl c hcm
      rw [upd_ne (Nat.ne_of_lt (Nat.lt_of_lt_of_le hlt (by rw [g3]; exact Nat.le_succ _))), upd_ne (Nat.ne_of_lt hlt)]
      exact (hf c hcm).1
  done := by
    intro X hP hw hK hc i pins s σ H E I hf st hg
    subst hP hw hK
    obtain ⟨⟨old, he⟩, zt⟩ := st
    obtain ⟨xs, ys, hqx, hqy, hend⟩ := hg
    obtain ⟨its, rv, p, _⟩ := I.list hqx
    obtain ⟨its2, rv2, p2, _⟩ := I.list hqy
    have l1 := rv.length
    have l2 := rv2.length
    have ge : its.toArray[i]? = none ∨ its2.toArray[i]? = none := by
      rcases hend with q | q
      · exact .inl (by simp; omega)
      · exact .inr (by simp; omega)
    refine enum_over (G := fun h1 => ∀ c o, c ≠ z → c ≠ TO → c ≠ i1 → c ≠ i2 → s.heap.get? c = some o → h1.get? c = some o) he (fun B E' R hB k => zip_over (hB.trans (I.ok.hd hc)) D zt p.isList p2.isList ge fun h' er g1 g2 => k h' er g1 g2) fun h1 g4 => ⟨rfl, ?_⟩
    exact I.turnedL (t' := s.toks) (ch := [z, TO, i1, i2]) (fun c o hb q => g4 c o (fun q' => hb (by simp [q'])) (fun q' => hb (by simp [q'])) (fun q' => hb (by simp [q'])) (fun q' => hb (by simp [q'])) q) (fun c hcm => hf c (by
        simp only [List.mem_cons, List.not_mem_nil, or_false] at hcm ⊢
        rcases hcm with q | q | q | q <;> simp [q]))
  self := fun A i s Q E st h => let ⟨⟨_, he⟩, _⟩ := st; wpAny_pyIter_enum he h
/-- enumerate(zip(..)) begins -/
theorem zip_iter_any {prog : Program} {w : World} {A : Around} {E : Value → Shared → Prop} {s : Shared} {z TI TO : Addr} {Q : Value → Shared → Prop} (hz : IsZip s.heap z TI TO .none) (h : Q (.ref z) s) : wpAny (model prog w) A (pyIter (.ref z)) Q E s := wpAny_pyIter_zip hz h
theorem meets_enumZ (z TI TO : Addr) : Meets (Builtin.«enumerate.__new__» { pos := [Value.type "enumerate", .ref z] }) fun _ R s =>
    IsZip s.heap z TI TO .none ∧ R (Except.ok (Flow.ret (Value.ref s.heap.objs.size))) { heap := s.heap.push { cls := Value.type "enumerate", data := Data.fields #[Value.none, Value.bool false, Value.ref z, rawInt 0, Value.none, Value.none] }, gens := s.gens, drawn := s.drawn, toks := s.toks, os := s.os } := by
  intro prog w A R s ⟨h1, h2⟩
  unfold Builtin.«enumerate.__new__»
  rw [newClass_enum]
  refine wpAny_bind (wpAny_pure ?_)
  simp only [beq_self_eq_true, if_true]
  have key : ∀ s' : Shared, s' = s → wpAny (model prog w) A.in1 (do
      let __do_lift ← pyIter (.ref z)
      let __do_lift ← Builtin.SmallTypes.newRecord (Value.type "enumerate") (Builtin.SmallTypes.ownedTupleFields ++ [__do_lift, rawInt 0, Value.none, Value.none])
      ret __do_lift) (fun fin s' => match fin with
          | Fin.done f => R (Except.ok f) s'
          | Fin.again c' => c'.quiet = true ∧ codeAny (model prog w) A c' R s') (fun e s' => R (Except.error e) s') s' := by
    rintro s' rfl
    refine wpAny_bind (zip_iter_any h1 (wpAny_bind ?_))
    refine wpAny_newObj_type (T := "enumerate") (data := Data.fields #[Value.none, Value.bool false, Value.ref z, rawInt 0, Value.none, Value.none]) (dict := none) ?_
    exact wpAny_pure h2
  refine wpAny_bind ?_
  unfold Builtin.SmallTypes.calledThroughType
  refine wpAny_bind (wpAny_stack fun st _ _ _ => ?_)
  refine wpAny_pure ?_
  exact iteInduction (motive := fun m => wpAny (model prog w) A.in1 m _ _ s) (fun _ => key s rfl) (fun _ => key s rfl)
theorem call_enumZ {prog : Program} {w : World} {A : Around} {E : Value → Shared → Prop} {s : Shared} {z TI TO : Addr} {Q : Value → Shared → Prop} (h : IsZip s.heap z TI TO .none)
    (k : ∀ h' : Heap, IsEnum h' s.heap.objs.size z 0 Value.none → (∀ (b : Addr) (o : Obj), s.heap.get? b = some o → h'.get? b = some o) → Q (.ref s.heap.objs.size) { s with heap := h' }) : wpAny (model prog w) A (call (Value.type "enumerate") [.ref z]) Q E s := by
  refine callType_new F.called_enumerate (by decide) (F.typeCall_enumerate_1 (.ref z)) (F.newCall_enumerate_1 (.ref z)) (fun obj => ao1 obj (.ref z)) F.entry_enumerate_new (meets_enumZ z TI TO) ⟨h, ?_⟩
  have g2 : (s.heap.push { cls := Value.type "enumerate", data := Data.fields #[Value.none, Value.bool false, Value.ref z, rawInt 0, Value.none, Value.none] }).get? s.heap.objs.size = some { cls := Value.type "enumerate", data := Data.fields #[Value.none, Value.bool false, Value.ref z, rawInt 0, Value.none, Value.none] } := Heap.get?_push_size _ rfl
  exact ⟨⟨_, g2, rfl⟩, k _ g2 fun b u q => Heap.get?_push_of_some _ q⟩
def iEnumZip (K : PySem.W.Frag) (ta : TA) : TI := fun σ H R => ta σ H fun vs H1 => ∃ a b xs ys, vs = [.ref a, .ref b] ∧ SqL K H1 a xs ∧ SqL K H1 b ys ∧ R (Itez K a b) H1
theorem pi_enumZip {X : Cx} {e e2 : Expr} {ta : TA} {p pos p2 pos2 tpos : Pos} {elts : List Expr} {kk : Nat} (hg : Gl X "enumerate") (hm : X.mg "enumerate" = none) (hgz : Gl X "zip") (hmz : X.mg "zip" = none) (ha : PA X [e, e2] ta)
    (ho : starEach [.Call (.Name "zip" p2) [e, e2] [] pos2] X.env = [(false, eval (.Call (.Name "zip" p2) [e, e2] [] pos2) X.env)] := by rfl)
    (hs : starEach [e, e2] X.env = (false, eval e X.env) :: starEach [e2] X.env := by rfl) (hpl : (backTo pos2 (starEach [e2] X.env)).any (·.1) = false := by rfl) :
    PI X (.Tuple elts kk tpos) (.Call (.Name "enumerate" p) [.Call (.Name "zip" p2) [e, e2] [] pos2] [] pos) (iEnumZip X.K ta) := by
  refine ⟨fun pins s σ H R I h => ?_⟩
  refine wpAny_Call_Name_kw (ld_blt I hg hm boot_enumerate ?_)
  rw [ho]
  refine callWith_type1 (Call_ (ld_blt I hgz hmz PyProof.Rows.boot_zip (PyProof.Rows.callWith_type1 (thn (ha.run pos2 pins s σ H _ I h) fun us s1 ⟨vs, H1, I1, r1, q1⟩ => ?_) hs hpl)))
  obtain ⟨a, b, xs, ys, ex, hqx, hqy, q⟩ := q1
  subst ex
  cases r1 with
  | cons r rr =>
    cases rr with
    | cons r' rr =>
      cases rr
      cases r
      cases r'
      obtain ⟨its, rv, p1, _⟩ := I1.list hqx
      obtain ⟨its2, rv2, p2, _⟩ := I1.list hqy
      have la : a < s1.heap.objs.size := p1.lt
      have lb : b < s1.heap.objs.size := p2.lt
      refine call_zip_2 p1.isList p2.isList fun h1 hz hTI hTO t1 t2 hsz hk => ?_
      refine call_enumZ (s := { s1 with heap := h1 }) hz fun h' hE hk2 => wpAny_pyIter_enum hE ?_
      have I2 : Inv X pins σ H1 { s1 with heap := h' } := I1.kept (t' := s1.toks) fun c o q => hk2 c o (hk c o q)
      have es : ({ s1 with heap := h1 } : Shared).heap.objs.size = s1.heap.objs.size + 5 := hsz
      rw [es] at hE ⊢
      refine ⟨s1.heap.objs.size + 5, [s1.heap.objs.size + 5, s1.heap.objs.size + 4, s1.heap.objs.size + 2, s1.heap.objs.size + 3, s1.heap.objs.size, s1.heap.objs.size + 1], _, _, H1, rfl, I2, turn_ez (PySem.W.ktu_apart s1.heap.objs.size a b la lb) ?_, ⟨⟨_, hE⟩, .inl (hk2 _ _ hz), hk2 _ _ hTI, ⟨_, _, hk2 _ _ hTO⟩, t1.at fun o q => hk2 _ o q, t2.at fun o q => hk2 _ o q⟩, fun c hcm => ?_, q⟩
      · have five : ∀ n : Nat, n + 5 ∉ [n + 4, n + 2, n + 3, n, n + 1] := fun n => by simp
        exact five _
      · have all : ∀ n c : Nat, c ∈ [n + 5, n + 4, n + 2, n + 3, n, n + 1] → n ≤ c := fun n c h => by
          simp only [List.mem_cons, List.not_mem_nil, or_false] at h
          omega
        have hle := all _ _ hcm
        exact I1.fpOk hle (I1.hok.fresh hle)
theorem walk_ez {K : PySem.W.Frag} {a b : Addr} {xs ys : List V} (hl : xs.length = ys.length) : Walk (Itez K a b) xs.length (fun H => SqL K H a xs ∧ SqL K H b ys) (fun i H v H' => ∃ (S T : Addr) (x y : V), v = .ref T ∧ H S = none ∧ upd H S (.tup [x, y]) T = none ∧ H' = upd (upd H S (.tup [x, y])) T (.tup [.int (i : Nat), .ref S]) ∧ xs[i]? = some x ∧ ys[i]? = some y) := by
  refine ⟨fun i H hi h => ?_, fun H h => ⟨xs, ys, h.1, h.2, .inl (Nat.le_refl _)⟩, fun i H x H' hi h hy => ?_⟩
  · have h2 : i < ys.length := by omega
    exact ⟨xs, ys, xs[i], ys[i], h.1, h.2, List.getElem?_eq_getElem hi, List.getElem?_eq_getElem h2⟩
  · obtain ⟨S, T, v, u, rfl, hn, hn2, rfl, hx, hy⟩ := hy
    exact ⟨S, T, v, u, rfl, hn, hn2, rfl, hx xs h.1, hy ys h.2⟩
end EnT

namespace EnT
open PySem PySem.Spec PyProof.Rows L2
/-! ### xs[a:c] = ys -/
def gSl (to ta tc : TE) : TG := fun v σ H Q => to σ H fun o H1 => tPart ta σ H1 fun w H2 => ∃ i, w = some i ∧ tPart tc σ H2 fun w2 H3 => ∃ j, w2 = some j ∧ ∃ (l b : Addr) (xs ys : List V),
  o = .ref l ∧ v = .ref b ∧ H3 l = some (.lst xs) ∧ H3 b = some (.lst ys) ∧ l ≠ b ∧ 0 ≤ i ∧ i ≤ j ∧ j ≤ xs.length ∧ xs.length + ys.length ≤ sizeLine ∧ Q σ (upd H3 l (.lst (xs.take i.toNat ++ ys ++ xs.drop j.toNat)))
theorem pg_slice {X : Cx} {o a c : Expr} {to ta tc : TE} {p2 pos : Pos} (ho : PE X o to) (h1 : PE X a ta) (h2 : PE X c tc)
    (ha : ∀ v, assign (.Subscript o (.Slice (some a) (some c) none p2) pos) X.env v = (do
      let ov ← holding [v] (eval o X.env)
      let iv ← holding [v, ov] (eval (.Slice (some a) (some c) none p2) X.env)
      standAt pos
      holding [v, ov, iv] (setItem ov iv v)
      release [iv, v, ov] []) := by intro _; rfl) : PG X (.Subscript o (.Slice (some a) (some c) none p2) pos) (gSl to ta tc) := by
  refine ⟨fun pins s σ H v u Q I r h => ?_⟩
  rw [ha]
  refine wpAny_bind (wpAny_holding (thn (ho.run pins s σ H _ I h) fun ov s1 ⟨x, H1, I1, r1, q1⟩ => ?_))
  refine wpAny_bind (wpAny_holding (wpAny_Slice (thn ((po_some h1).run pins s1 σ H1 _ I1 q1) fun vl s2 ⟨w, H2, I2, pl, i, ew, q2⟩ => ?_)))
  subst ew
  refine thn ((po_some h2).run pins s2 σ H2 _ I2 q2) fun vu s3 ⟨w, H3, I3, pu, j, ew, l, b, xs, ys, ex, ev, hl, hb, hne, h0, hij, hj, hz, q⟩ => ?_
  subst ew ex ev
  cases r1
  cases r
  rw [evalPart_none]
  refine wpAny_pure ?_
  have I4 : Inv X pins σ H3 { s3 with heap := s3.heap.push { cls := .type "slice", data := .fields #[vl, vu, .none] } } := I3.kept (t' := s3.toks) fun b ob q => Heap.get?_push_of_some _ q
  refine wpAny_bind (wpAny_standAt (wpAny_bind (wpAny_holding ?_)))
  have rl : RelV (.int i) vl := by cases pl with | int _ t => exact ⟨t, rfl⟩
  have ru : RelV (.int j) vu := by cases pu with | int _ t => exact ⟨t, rfl⟩
  exact set_slice I4 hl hb hne (Heap.IsSliceOf.new ..) rl ru h0 hij hj hz fun s' I5 => wpAny_release ⟨σ, _, I5, q⟩
end EnT

namespace TGK
open TG
open PySem PySem.Spec PyProof.Rows L2 Gx EnT
/-! ### texts and rows that are cut and joined -/
theorem same_rf (H : Hp) : Same H H := fun _ _ e => e
theorem same_tr {H H1 H2 : Hp} (x : Same H H1) (y : Same H1 H2) : Same H H2 := fun b u e => y b u (x b u e)
def zT (z : Str) (k : Nat) : Str := cutS z none (some (k : Int))
def zD (z : Str) (k : Nat) : Str := cutS z (some (k : Int)) none
theorem cl_zT (z : Str) (k : Nat) : cl (zT z k) = (cl z).take k := by
  obtain ⟨⟨l⟩⟩ := z
  unfold zT cutS
  simp only [cl, Str.length]
  rw [HT.sIx_none, HT.sIx_nat]
  simp
theorem cl_zD (z : Str) (k : Nat) : cl (zD z k) = (cl z).drop k := by
  obtain ⟨⟨l⟩⟩ := z
  unfold zD cutS
  simp only [cl, Str.length]
  rw [HT.sIx_none, HT.sIx_nat]
  simp only [List.size_toArray]
  rw [List.take_of_length_le (by rw [List.length_drop]; omega)]
  by_cases h : k ≤ l.length
  · rw [Nat.min_eq_left h]
  · rw [Nat.min_eq_right (by omega), List.drop_eq_nil_of_le (Nat.le_refl _), List.drop_eq_nil_of_le (by omega)]
theorem len_clz (z : Str) : z.length = (cl z).length := by
  show z.cps.size = z.cps.toList.length
  simp
theorem len_zT {z : Str} {k : Nat} : (zT z k).length = min k z.length := by rw [len_clz, cl_zT, List.length_take, ← len_clz]
theorem len_zD {z : Str} {k : Nat} : (zD z k).length = z.length - k := by rw [len_clz, cl_zD, List.length_drop, ← len_clz]
theorem len_zz (a b : Str) : (a ++ b).length = a.length + b.length := by rw [len_clz, cl_app, List.length_append, ← len_clz, ← len_clz]
/-- signs all good, at most so many -/
structure Sgs (z : Str) (m : Nat) : Prop where
  len : z.length ≤ m
  sg : ∀ c ∈ cl z, SgOk c
theorem Sgs.cell {z : Str} (h : Sgs z 10) : CellOk z := ⟨h.len, h.sg⟩
theorem _root_.TG.CellOk.sgs {z : Str} (h : CellOk z) : Sgs z 10 := ⟨h.len, h.sg⟩
theorem Sgs.tk {z : Str} {m k : Nat} (h : Sgs z m) : Sgs (zT z k) m := ⟨by rw [len_zT]; have := h.len; omega, fun c hc => h.sg c (by rw [cl_zT] at hc; exact List.mem_of_mem_take hc)⟩
theorem Sgs.dr {z : Str} {m k : Nat} (h : Sgs z m) : Sgs (zD z k) m := ⟨by rw [len_zD]; have := h.len; omega, fun c hc => h.sg c (by rw [cl_zD] at hc; exact List.mem_of_mem_drop hc)⟩
theorem Sgs.app {a b : Str} {m n : Nat} (h : Sgs a m) (h2 : Sgs b n) : Sgs (a ++ b) (m + n) := ⟨by rw [len_zz]; have := h.len; have := h2.len; omega, fun c hc => by
  rw [cl_app] at hc
  rcases List.mem_append.mp hc with q | q
  · exact h.sg c q
  · exact h2.sg c q⟩
theorem Sgs.mono {z : Str} {m n : Nat} (h : Sgs z m) (hn : m ≤ n) : Sgs z n := ⟨Nat.le_trans h.len hn, h.sg⟩
/-- a row that may be too long, its cells too -/
structure RowL (r : List Str) (n m : Nat) : Prop where
  pos : 1 ≤ r.length
  len : r.length ≤ n
  cells : ∀ z ∈ r, Sgs z m
theorem _root_.TG.RowOk.loose {r : List Str} (h : RowOk r) : RowL r 6 10 := ⟨h.pos, h.len, fun z hz => (h.cells z hz).sgs⟩
theorem RowL.mono {r : List Str} {n m n' m' : Nat} (h : RowL r n m) (h1 : n ≤ n') (h2 : m ≤ m') : RowL r n' m' := ⟨h.pos, Nat.le_trans h.len h1, fun z hz => (h.cells z hz).mono h2⟩
theorem RowL.ok {r : List Str} {n m : Nat} (h : RowL r n m) (h1 : r.length ≤ 6) (h2 : ∀ z ∈ r, z.length ≤ 10) : RowOk r := ⟨h.pos, h1, fun z hz => ⟨h2 z hz, (h.cells z hz).sg⟩⟩
def fitR (r : List Str) : Bool := decide (1 ≤ r.length ∧ r.length ≤ 6) && r.all fun z => decide (z.length ≤ 10)
theorem RowL.fit {r : List Str} {n m : Nat} (h : RowL r n m) : fitR r = true ↔ RowOk r := by
  unfold fitR
  rw [Bool.and_eq_true, decide_eq_true_iff, List.all_eq_true]
  constructor
  · rintro ⟨⟨_, h1⟩, h2⟩
    exact h.ok h1 fun z hz => of_decide_eq_true (h2 z hz)
  · intro o
    exact ⟨⟨o.pos, o.len⟩, fun z hz => decide_eq_true (o.cells z hz).len⟩
def halvA (r : List Str) (c k : Nat) : List Str := r.take c ++ [zT (r.getD c nilS) k]
def halvB (r : List Str) (c k : Nat) : List Str := zD (r.getD c nilS) k :: r.drop (c + 1)
def joinR (a b : List Str) : List Str := a.dropLast ++ (a.getLast?.getD nilS ++ b.headD nilS) :: b.tail
/-- a row without its first sign, or tab; none, where nothing is there -/
def lessR (r : List Str) : Option (List Str) := if r.headD nilS ≠ nilS then some (zD (r.headD nilS) 1 :: r.tail) else if r.length = 1 then none else some r.tail
theorem getD_mem {r : List Str} {c : Nat} (h : c < r.length) : r.getD c nilS ∈ r := by
  rw [List.getD_eq_getElem?_getD, List.getElem?_eq_getElem h]
  exact List.getElem_mem h
theorem halvA_l {r : List Str} {n m c k : Nat} (h : RowL r n m) (hc : c < r.length) : RowL (halvA r c k) n m := by
  unfold halvA
  refine ⟨by simp, ?_, fun z hz => ?_⟩
  · rw [List.length_append, List.length_take, List.length_singleton]
    have := h.len
    omega
  · rcases List.mem_append.mp hz with q | q
    · exact h.cells z (List.mem_of_mem_take q)
    · rw [List.mem_singleton.mp q]
      exact (h.cells _ (getD_mem hc)).tk
theorem halvB_l {r : List Str} {n m c k : Nat} (h : RowL r n m) (hc : c < r.length) : RowL (halvB r c k) n m := by
  unfold halvB
  refine ⟨by simp, ?_, fun z hz => ?_⟩
  · rw [List.length_cons, List.length_drop]
    have := h.len
    omega
  · rcases List.mem_cons.mp hz with q | q
    · rw [q]
      exact (h.cells _ (getD_mem hc)).dr
    · exact h.cells z (List.mem_of_mem_drop q)
theorem last_mem {a : List Str} (h : 1 ≤ a.length) : a.getLast?.getD nilS ∈ a := by
  cases e : a.getLast? with
  | none => rw [List.getLast?_eq_none_iff] at e; rw [e] at h; simp at h
  | some z => exact List.mem_of_getLast? e
theorem head_mem {a : List Str} (h : 1 ≤ a.length) : a.headD nilS ∈ a := by
  cases a with
  | nil => simp at h
  | cons z a => exact List.mem_cons_self ..
theorem joinR_l {a b : List Str} {n m n' m' : Nat} (h : RowL a n m) (h2 : RowL b n' m') : RowL (joinR a b) (n + n' - 1) (m + m') := by
  unfold joinR
  have := h.pos
  have := h2.pos
  refine ⟨by rw [List.length_append, List.length_cons]; omega, ?_, fun z hz => ?_⟩
  · rw [List.length_append, List.length_cons, List.length_dropLast, List.length_tail]
    have := h.len
    have := h2.len
    omega
  · rcases List.mem_append.mp hz with q | q
    · exact (h.cells z (List.dropLast_subset a q)).mono (Nat.le_add_right _ _)
    · rcases List.mem_cons.mp q with q | q
      · rw [q]
        exact (h.cells _ (last_mem h.pos)).app (h2.cells _ (head_mem h2.pos))
      · exact (h2.cells z (List.mem_of_mem_tail q)).mono (Nat.le_add_left _ _)
theorem lessR_l {r r' : List Str} {n m : Nat} (h : RowL r n m) (e : lessR r = some r') : RowL r' n m := by
  have hp := h.pos
  unfold lessR at e
  split at e
  · cases e
    refine ⟨by simp, by rw [List.length_cons, List.length_tail]; have := h.len; omega, fun z hz => ?_⟩
    rcases List.mem_cons.mp hz with q | q
    · rw [q]
      exact (h.cells _ (head_mem h.pos)).dr
    · exact h.cells z (List.mem_of_mem_tail q)
  · split at e
    · cases e
    · cases e
      exact ⟨by rw [List.length_tail]; omega, by rw [List.length_tail]; have := h.len; omega, fun z hz => h.cells z (List.mem_of_mem_tail hz)⟩
/-! ### tuples of texts: sums and slices -/
def cutL {α : Type} (xs : List α) (lo hi : Option Int) : List α := (xs.drop (HT.sIx xs.length 0 lo)).take (HT.sIx xs.length xs.length hi - HT.sIx xs.length 0 lo)
theorem cutV_map {α : Type} (g : α → V) (xs : List α) (lo hi : Option Int) : cutV (xs.map g) lo hi = (cutL xs lo hi).map g := by
  unfold cutV cutL
  rw [List.length_map, ← List.map_drop, ← List.map_take]
theorem cutL_to {α : Type} (xs : List α) (k : Nat) : cutL xs none (some (k : Int)) = xs.take k := by
  unfold cutL
  rw [HT.sIx_none, HT.sIx_nat, List.drop_zero, Nat.sub_zero]
  by_cases h : k ≤ xs.length
  · rw [Nat.min_eq_left h]
  · rw [Nat.min_eq_right (by omega), List.take_of_length_le (by omega), List.take_of_length_le (by omega)]
theorem cutL_from {α : Type} (xs : List α) (k : Nat) : cutL xs (some (k : Int)) none = xs.drop k := by
  unfold cutL
  rw [HT.sIx_none, HT.sIx_nat, List.take_of_length_le (by rw [List.length_drop]; omega)]
  by_cases h : k ≤ xs.length
  · rw [Nat.min_eq_left h]
  · rw [Nat.min_eq_right (by omega), List.drop_eq_nil_of_le (Nat.le_refl _), List.drop_eq_nil_of_le (by omega)]
theorem cutL_mid {α : Type} {xs : List α} {b e : Nat} (h1 : b ≤ e) (h2 : e ≤ xs.length) : cutL xs (some (b : Int)) (some (e : Int)) = (xs.drop b).take (e - b) := by
  unfold cutL
  rw [HT.sIx_nat, HT.sIx_nat, Nat.min_eq_left h2, Nat.min_eq_left (Nat.le_trans h1 h2)]
theorem cutL_last {α : Type} (xs : List α) (h : 1 ≤ xs.length) : cutL xs none (some (-1)) = xs.dropLast := by
  unfold cutL
  have e : HT.sIx xs.length xs.length (some (-1)) = xs.length - 1 := by
    unfold HT.sIx
    simp only
    rw [if_pos (by decide)]
    omega
  have e0 : HT.sIx xs.length 0 none = 0 := rfl
  rw [e0, e, List.drop_zero, Nat.sub_zero]
  exact (List.dropLast_eq_take ..).symm
section
variable {K : PySem.W.Frag} {H : Hp} {a b : Addr} {xs ys : List Str} {Q : VK}
theorem cat_rows (ha : SqT K H a (sV xs)) (hb : SqT K H b (sV ys)) (hz : xs.length + ys.length ≤ 1000) (k : ∀ (p : Addr) (H' : Hp), Same H H' → SqT K H' p (sV (xs ++ ys)) → Q (.ref p) H') : rCatA K (.ref a) (.ref b) H Q := by
  have szl : (1000 : Nat) < sizeLine := by decide
  refine ⟨a, b, _, _, rfl, rfl, ha, hb, by rw [List.length_map, List.length_map]; omega, fun e => ?_, fun _ e => ?_, fun _ _ p np => ?_⟩
  · have e' : xs = [] := List.map_eq_nil_iff.mp e
    subst e'
    exact k b H (same_rf H) hb
  · have e' : ys = [] := List.map_eq_nil_iff.mp e
    subst e'
    exact k a H (same_rf H) (by rw [List.append_nil]; exact ha)
  · refine k p _ (same_new np) (SqT.of ?_)
    rw [upd_same, ← List.map_append]
theorem sl_rows {lo hi : Option Int} (ha : SqT K H a (sV xs)) (k : ∀ (p : Addr) (H' : Hp), Same H H' → SqT K H' p (sV (cutL xs lo hi)) → Q (.ref p) H') : rSlA K (.ref a) lo hi H Q := by
  refine ⟨a, _, rfl, ha, fun e => ?_, fun _ p np => k p _ (same_new np) (SqT.of ?_)⟩
  · refine k a H (same_rf H) ?_
    have e2 := cutV_map V.str xs lo hi
    unfold cutV at e2
    rw [e.1, e.2, List.drop_zero, Nat.sub_zero, List.take_of_length_le (Nat.le_refl _)] at e2
    show SqT K H a ((cutL xs lo hi).map V.str)
    rw [← e2]
    exact ha
  · rw [upd_same, cutV_map]
theorem atZ_last (h : 1 ≤ xs.length) : atI (sV xs) (-1) = some (.str (xs.getLast?.getD nilS)) := by
  refine atm1 (n := xs.length - 1) (by rw [List.length_map]; omega) ?_
  rw [List.getElem?_map, ← List.getLast?_eq_getElem?]
  cases e : xs.getLast? with
  | none => rw [List.getLast?_eq_none_iff] at e; rw [e] at h; simp at h
  | some z => rfl
theorem atZ_head (h : 1 ≤ xs.length) : atI (sV xs) 0 = some (.str (xs.headD nilS)) := by
  cases xs with
  | nil => simp at h
  | cons z xs => exact atI_nat (j := 0) rfl
theorem atZ {c : Nat} (h : c < xs.length) : atI (sV xs) (c : Int) = some (.str (xs.getD c nilS)) := by
  refine atI_nat ?_
  rw [List.getElem?_map, List.getD_eq_getElem?_getD, List.getElem?_eq_getElem h]
  rfl
end
end TGK

namespace TGK
open TG
open PySem L2 Gx
/-! ### signs and texts, whatever is asked -/
def sgB (c : Nat) : Bool := decide (32 ≤ c) && decide (c ≤ 126) && decide (c ≠ 37)
theorem sgB_iff {c : Nat} : sgB c = true ↔ SgOk c := by
  unfold sgB SgOk
  simp only [Bool.and_eq_true, decide_eq_true_eq]
  omega
def textB (z : Str) (m : Int) : Bool := decide ((z.length : Int) ≤ m) && (cl z).all sgB
/-- what is no text -/
def NoText (K : PySem.W.Frag) (H : Hp) (v : V) : Prop := ∃ nm : String, TyX K H v (.type nm) ∧ kitB nm "str" = some false
section
variable {P : Program} {w : World} {K : PySem.W.Frag} {mg : Str → Option Value} {base : Heap} {cs : List (Addr × Addr)}
def spSg2 : Sp := fun vs H Q _ => ∃ c : Nat, vs = [.str ⟨#[c]⟩] ∧ Q (.bl (sgB c)) H
theorem ok_sg2 {f : Addr} {fd : FuncData} (T : Txt mg) (N : Consts mg) (F : Fun K "is_sign" "is_sign" s_is_sign f fd) : FnOk P w K mg base CX0 1 f fd ["sign"] spSg2 := by
  refine F.ok sc_sg (fun vs H Q E h => ?_) (fun cdv A outer s H vs Q E hr h => ?_)
  · obtain ⟨c, rfl, _⟩ := h
    rfl
  · obtain ⟨c, rfl, k⟩ := h
    obtain ⟨t1, e1⟩ := N.blank
    obtain ⟨t2, e2⟩ := N.tilde
    obtain ⟨t3, e3⟩ := N.percent
    refine ⟨_, pss_one (ps_ret (pe_and (pe_chain op_le op_le (pe_glob (v := .int 32) rfl e1 ⟨_, rfl⟩) (pe_callB call_ord (by rfl) T.ord (by decide +kernel) (pa_cons (pv 0) pa_nil)) (pe_glob (v := .int 126) rfl e2 ⟨_, rfl⟩))
      (pe_one (pe_cmpR op_ne (pe_callB call_ord (by rfl) T.ord (by decide +kernel) (pa_cons (pv 0) pa_nil)) (pe_glob (v := .int 37) rfl e3 ⟨_, rfl⟩) (nomark _))))), ?_⟩
    refine ⟨_, rfl, _, rfl, rfl, 32, (c : Int), rfl, rfl, ?_⟩
    by_cases h1 : 32 ≤ c
    · refine ⟨true, dT (show (32 : Int) ≤ c by omega), iteT ⟨(c : Int), 126, rfl, rfl, ?_⟩⟩
      by_cases h2 : c ≤ 126
      · have e4 : V.bl (decide ((c : Int) ≤ 126)) = V.bl true := dT (by omega)
        refine ⟨true, e4, iteT ⟨_, rfl, _, rfl, rfl, rfl, ?_⟩⟩
        have e5 : (!decide (V.int (c : Int) = V.int 37)) = sgB c := by
          unfold sgB
          rw [decide_eq_true h1, decide_eq_true h2]
          by_cases h3 : c = 37
          · subst h3
            rfl
          · rw [decide_eq_false (show ¬ V.int (c : Int) = V.int 37 from fun z => by injection z with z; exact h3 (by omega)), decide_eq_true (show c ≠ 37 from h3)]
            rfl
        show Q (.bl (!decide (V.int (c : Int) = V.int 37))) H
        rw [e5]
        exact k
      · have e4 : V.bl (decide ((c : Int) ≤ 126)) = V.bl false := dF (by omega)
        have e5 : sgB c = false := by
          unfold sgB
          rw [decide_eq_false h2, Bool.and_false, Bool.false_and]
        rw [e5] at k
        exact ⟨false, e4, iteF k⟩
    · have e5 : sgB c = false := by
        unfold sgB
        rw [decide_eq_false h1, Bool.false_and, Bool.false_and]
      rw [e5] at k
      refine ⟨false, dF (by omega), iteF ⟨false, ?_, iteF ?_⟩⟩
      · first | rfl | exact dF (by omega)
      · exact k
def spText2 (K : PySem.W.Frag) (cs : List (Addr × Addr)) : Sp := fun vs H Q _ => ∃ (v : V) (m : Int) (b : Bool), vs = [v, .int m] ∧ Tabs cs H ∧ ((NoText K H v ∧ b = false) ∨ ∃ z, v = .str z ∧ z.length ≤ 1000 ∧ b = textB z m) ∧ ∀ H', Ex cs H H' → Q (.bl b) H'
theorem ok_text2 {f c Pt g : Addr} {fd fdg : FuncData} (T : Txt mg) (F : Fun K "is_text_of_signs" "is_text_of_signs" s_is_text f fd) (hc : fd.code = .ref c) (TB : GxR.TabB base mg c Pt) (hm : (c, Pt) ∈ cs)
    (G : FnOk P w K mg base CX0 1 g fdg ["sign"] spSg2) (kp : PySem.W.keepIn K (.ref g) = true) (bd : Binds K fdg ["sign"] []) (mgg : mg "is_sign" = some (.ref g)) : FnOk P w K mg base CX0 5 f fd ["value", "most"] (spText2 K cs) := by
  refine fun_okT F hc sc_text (fun vs H Q E h => ?_) (fun A outer s H vs Q E hr h => ?_)
  · obtain ⟨v, m, b, rfl, _⟩ := h
    rfl
  · obtain ⟨v, m, b, rfl, hT, hv, k⟩ := h
    refine ⟨_, pss_one (ps_ret (pe_and (pe_callB call_isi (by rfl) T.isin (by decide +kernel) (pa_cons (pv 0) (pa_cons (pe_bltn (v := .ty "str") (by rfl) T.str (by decide +kernel) rfl) pa_nil)))
      (pe_and (pe_cmpR op_le (pe_callB call_len_str (by rfl) T.len PySem.boot_len (pa_cons (pv 0) pa_nil)) (pv 1) (nomark _))
        (pe_one (pe_allG (k := 1) (P := Pt) hr (by rfl) T.all TB rfl ⟨rfl, rfl, by decide +kernel, by decide +kernel, rfl, rfl⟩ (pi_str (pv 0)) (fun A' code s4 H4 fp hr' => pe_call G hr' (by rfl) mgg kp bd .nil pass0 (pa_cons (pv 0) pa_nil)) (fun _ => rfl)))))), ?_⟩
    rcases hv with ⟨⟨nm, ty, hk⟩, rfl⟩ | ⟨z, rfl, h2, rfl⟩
    · exact ⟨_, rfl, _, _, _, _, false, rfl, .ty _, ty, kit_ty hk, false, rfl, iteF (k _ (Ex.refl hT))⟩
    · refine ⟨_, rfl, _, _, _, _, true, rfl, .ty _, .base (.str z), kit_ty (by decide +kernel), true, rfl, iteT ⟨_, rfl, z, rfl, line10 h2, _, rfl, _, _, rfl, rfl, ?_⟩⟩
      by_cases h1 : (z.length : Int) ≤ m
      · have hB : textB z m = (cl z).all sgB := by
          unfold textB
          rw [decide_eq_true h1, Bool.true_and]
        refine ⟨true, dT h1, iteT ⟨_, rfl, z, rfl, hT _ hm, fun H2 hH2 => ?_⟩⟩
        have x2 := Ex.tabbed hT hm hH2
        refine all_by (w := walk_str (z := z)) (fun i => match (cl z)[i]? with | some c => sgB c | none => true) (fun _ H' => Ex cs H H') x2 (fun _ _ _ _ => trivial) (fun i v H3 H4 hi x y Z hZ => ?_) (fun H3 x hall => ?_) (fun i H3 hi hff x => ?_)
        · obtain ⟨rfl, c, hc, rfl⟩ := y
          have hc2 : (cl z)[i]? = some c := by rw [Array.getElem?_toList]; exact hc
          refine ⟨_, rfl, c, rfl, ?_⟩
          have := hZ _ x
          rw [hc2] at this
          exact this
        · have e : textB z m = true := by
            rw [hB, List.all_eq_true]
            intro c hcm
            obtain ⟨i, hi, e⟩ := List.getElem_of_mem hcm
            have q := hall i (by have := len_cl z; omega)
            rw [List.getElem?_eq_getElem hi, e] at q
            exact q
          rw [← e]
          exact k _ x
        · have e : textB z m = false := by
            rw [hB, Bool.eq_false_iff]
            intro q
            rw [List.all_eq_true] at q
            have hi2 : i < (cl z).length := by have := len_cl z; omega
            rw [List.getElem?_eq_getElem hi2] at hff
            have := q _ (List.getElem_mem hi2)
            rw [show sgB (cl z)[i] = false from hff] at this
            cases this
          rw [← e]
          exact k _ x
      · have e : textB z m = false := by
          unfold textB
          rw [decide_eq_false h1, Bool.false_and]
        rw [e] at k
        exact ⟨false, dF h1, iteF (k _ (Ex.refl hT))⟩
end
end TGK

namespace TGK
open TG
open PySem PySem.Spec PyProof.Rows L2 Gx EnT
/-! ### errors, checks, rows parted and joined -/
/-- an own class of errors that is made with a text -/
structure ErrC (K : PySem.W.Frag) (mg : Str → Option Value) (x : Str) (C G : Addr) : Prop where
  mg_ : mg x = some (.ref C)
  exc : PySem.W.excIn K C [.type "ValueError", .type "Exception", .type "BaseException", .type "object"] "ValueError.__new__" = true
  kp : PySem.W.keepIn K (.ref C) = true
  sub : PySem.W.subIn K (.ref C) (.type "BaseException") = some true
  ty : PySem.W.typeIn K (.ref C) = some (.type "type")
  up : PySem.W.exmOne K (.ref C) (.ref G) = some true
structure SErr (K : PySem.W.Frag) (mg : Str → Option Value) (R C G : Addr) : Prop where
  row : ErrC K mg "BadRow" R G
  cell : ErrC K mg "BadCell" C G
  grow : mg "GrowError" = some (.ref G)
/-- rows at addresses -/
structure RowsAt (K : PySem.W.Frag) (H : Hp) (as : List Addr) (rows : List (List Str)) : Prop where
  len : as.length = rows.length
  row : ∀ (i : Nat) (p : Addr) (r : List Str), as[i]? = some p → rows[i]? = some r → SqT K H p (sV r)
theorem _root_.TG.PageAt.rows {K : PySem.W.Frag} {H : Hp} {a : Addr} {as : List Addr} {rows : List (List Str)} (p : PageAt K H a as rows) : RowsAt K H as rows := ⟨p.len, p.row⟩
section
variable {P : Program} {w : World} {K : PySem.W.Frag} {mg : Str → Option Value} {base : Heap} {cs : List (Addr × Addr)} {R C G : Addr}
def spWholeB : Sp := fun vs H Q _ => ∃ (i lo hi : Int), vs = [.int i, .int lo, .int hi] ∧ Q (.bl (decide (lo ≤ i ∧ i ≤ hi))) H
theorem ok_wholeB {f : Addr} {fd : FuncData} (T : Txt mg) (F : Fun K "is_whole" "is_whole" s_is_whole f fd) : FnOk P w K mg base CX0 1 f fd ["value", "low", "high"] spWholeB := by
  refine F.ok sc_whole (fun vs H Q E h => ?_) (fun cdv A outer s H vs Q E hr h => ?_)
  · obtain ⟨i, lo, hi, rfl, _⟩ := h
    rfl
  · obtain ⟨i, lo, hi, rfl, k⟩ := h
    refine ⟨_, pss_one (ps_ret (pe_and (pe_callB call_isi (by rfl) T.isin (by decide +kernel) (pa_cons (pv 0) (pa_cons (pe_bltn (v := .ty "int") (by rfl) T.int (by decide +kernel) rfl) pa_nil)))
      (pe_and (pe_not (pe_callB call_isi (by rfl) T.isin (by decide +kernel) (pa_cons (pv 0) (pa_cons (pe_bltn (v := .ty "bool") (by rfl) T.bool (by decide +kernel) rfl) pa_nil)))) (pe_one (pe_chain op_le op_le (pv 1) (pv 0) (pv 2)))))), ?_⟩
    refine ⟨_, rfl, _, _, _, _, true, rfl, .ty _, .base (.int i), kit_ty (by decide +kernel), true, rfl, iteT ⟨_, rfl, _, _, _, _, false, rfl, .ty _, .base (.int i), kit_ty (by decide +kernel), false, rfl, true, rfl, iteT ⟨_, rfl, _, rfl, lo, i, rfl, rfl, ?_⟩⟩⟩
    by_cases h1 : lo ≤ i
    · refine ⟨true, dT h1, iteT ⟨_, rfl, i, hi, rfl, rfl, ?_⟩⟩
      have e : decide (lo ≤ i ∧ i ≤ hi) = decide (i ≤ hi) := by simp [h1]
      rw [e] at k
      exact k
    · have e : decide (lo ≤ i ∧ i ≤ hi) = false := decide_eq_false fun z => h1 z.1
      rw [e] at k
      exact ⟨false, dF h1, iteF k⟩
theorem sc_num : FnScope ["number", "last"] ["number", "last"] (defScope s_check_number) := ⟨rfl, rfl, rfl, by decide +kernel, rfl, by decide +kernel, by decide +kernel⟩
/-- a number that is one -/
def spNum0 : Sp := fun vs H Q _ => ∃ (n last : Int), vs = [.int n, .int last] ∧ 0 ≤ n ∧ n ≤ last ∧ Q .non H
theorem ok_num0 {f g : Addr} {fd fdg : FuncData} (F : Fun K "check_number" "check_number" s_check_number f fd)
    (W : FnOk P w K mg base CX0 1 g fdg ["value", "low", "high"] spWholeB) (kp : PySem.W.keepIn K (.ref g) = true) (bd : Binds K fdg ["value", "low", "high"] []) (mgg : mg "is_whole" = some (.ref g)) : FnOk P w K mg base CX0 2 f fd ["number", "last"] spNum0 := by
  refine F.ok sc_num (fun vs H Q E h => ?_) (fun cdv A outer s H vs Q E hr h => ?_)
  · obtain ⟨n, last, rfl, _⟩ := h
    rfl
  · obtain ⟨n, last, rfl, h1, h2, k⟩ := h
    refine ⟨_, pss_one (ps_if (pt_not (pt_val (pe_call W hr (by rfl) mgg kp bd .nil pass0 (pa_cons (pv 0) (pa_cons pe_int (pa_cons (pv 1) pa_nil)))))) (pss_one ps_never) pss_nil), ?_⟩
    refine ⟨_, rfl, _, rfl, n, 0, last, rfl, true, ?_, iteF k⟩
    rw [decide_eq_true ⟨h1, h2⟩]
/-- a number that is one, or none -/
def spNum (R : Addr) : Sp := fun vs H Q E => ∃ (n last : Int), vs = [.int n, .int last] ∧ (0 ≤ n ∧ n ≤ last → Q .non H) ∧ (¬ (0 ≤ n ∧ n ≤ last) → E (.ref R) none H)
theorem ok_num {f g : Addr} {fd fdg : FuncData} (Er : SErr K mg R C G) (F : Fun K "check_number" "check_number" s_check_number f fd)
    (W : FnOk P w K mg base CX0 1 g fdg ["value", "low", "high"] spWholeB) (kp : PySem.W.keepIn K (.ref g) = true) (bd : Binds K fdg ["value", "low", "high"] []) (mgg : mg "is_whole" = some (.ref g)) : FnOk P w K mg base (L2.CX P w) 2 f fd ["number", "last"] (spNum R) := by
  refine F.okX sc_num (fun vs H Q E h => ?_) (fun cdv A outer s H vs Q E hr h => ?_)
  · obtain ⟨n, last, rfl, _⟩ := h
    rfl
  · obtain ⟨n, last, rfl, k1, k2⟩ := h
    refine ⟨_, pss_one (ps_if (pt_not (pt_val (pe_call W hr (by rfl) mgg kp bd .nil pass0 (pa_cons (pv 0) (pa_cons pe_int (pa_cons (pv 1) pa_nil))))))
      (pss_one (ps_raise rfl (takes_of rfl rfl rfl rfl) (pmk_own PySem.F.excBase_ValueError Er.row.exc Er.row.mg_ Er.row.kp (raises_own Er.row.sub Er.row.ty) rfl))) pss_nil), ?_⟩
    refine ⟨_, rfl, _, rfl, n, 0, last, rfl, _, rfl, ?_⟩
    by_cases h : 0 ≤ n ∧ n ≤ last
    · rw [decide_eq_true h]
      exact iteF (k1 h)
    · rw [decide_eq_false h]
      exact iteT (k2 h)
abbrev tabS : Str := "\t"
def spCSign (cs : List (Addr × Addr)) : Sp := fun vs H Q _ => ∃ (z : Str), vs = [.str z] ∧ Tabs cs H ∧ (z = tabS ∨ (Sgs z 1 ∧ z ≠ nilS)) ∧ ∀ H', Ex cs H H' → Q .non H'
theorem vstr_ne {a b : Str} : (!decide (V.str a = V.str b)) = decide (a ≠ b) := by
  by_cases h : a = b
  · rw [decide_eq_true (by rw [h]), decide_eq_false (by simp [h])]
    rfl
  · rw [decide_eq_false (fun z => h (by injection z)), decide_eq_true h]
    rfl
/-- is_filled of a text that is one -/
def spFilled (cs : List (Addr × Addr)) : Sp := fun vs H Q _ => ∃ (z : Str) (m : Int), vs = [.str z, .int m] ∧ Tabs cs H ∧ (z.length : Int) ≤ m ∧ z.length ≤ 1000 ∧ (∀ c ∈ z.cps.toList, SgOk c) ∧ z ≠ nilS ∧ ∀ H', Ex cs H H' → Q (.bl true) H'
/-- is_row of a row whose cells are of signs -/
def spRowB (K : PySem.W.Frag) (cs : List (Addr × Addr)) : Sp := fun vs H Q _ => ∃ (a : Addr) (r : List Str), vs = [.ref a] ∧ Tabs cs H ∧ SqT K H a (sV r) ∧ RowL r 100 100 ∧ ∀ H', Ex cs H H' → Q (.bl (fitR r)) H'
theorem sgs_textB {z : Str} {m : Nat} (h : Sgs z m) : textB z 10 = decide (z.length ≤ 10) := by
  have e : (cl z).all sgB = true := by
    rw [List.all_eq_true]
    intro c hc
    have := h.sg c hc
    unfold sgB
    obtain ⟨h1, h2, h3⟩ := this
    simp [h1, h2, h3]
  unfold textB
  rw [e, Bool.and_true]
  by_cases q : z.length ≤ 10
  · rw [decide_eq_true q, decide_eq_true (show ((z.length : Nat) : Int) ≤ 10 by omega)]
  · rw [decide_eq_false q, decide_eq_false (show ¬ ((z.length : Nat) : Int) ≤ 10 by omega)]
theorem ok_rowB {f c Pt g : Addr} {fd fdg : FuncData} (T : Txt mg) (N : Consts mg) (F : Fun K "is_row" "is_row" s_is_row f fd) (hc : fd.code = .ref c) (TB : GxR.TabB base mg c Pt) (hm : (c, Pt) ∈ cs)
    (W : FnOk P w K mg base CX0 5 g fdg ["value", "most"] (spText2 K cs)) (kp : PySem.W.keepIn K (.ref g) = true) (bd : Binds K fdg ["value", "most"] []) (mgg : mg "is_text_of_signs" = some (.ref g)) : FnOk P w K mg base CX0 9 f fd ["value"] (spRowB K cs) := by
  refine fun_okT F hc sc_row (fun vs H Q E h => ?_) (fun A outer s H vs Q E hr h => ?_)
  · obtain ⟨a, r, rfl, _⟩ := h
    rfl
  · obtain ⟨a, r, rfl, hT, hS, hL, k⟩ := h
    obtain ⟨t1, e1⟩ := N.cells
    obtain ⟨t2, e2⟩ := N.signs
    refine ⟨_, pss_cons (ps_if (PW.pt (pw_or (pt_not (pt_val (pe_callB call_isi (by rfl) T.isin (by decide +kernel) (pa_cons (pv 0) (pa_cons (pe_bltn (v := .ty "tuple") (by rfl) T.tuple (by decide +kernel) rfl) pa_nil)))))
        (pw_or1 (pt_not (pt_chain op_le op_le pe_int (pe_callB call_len_seq (by rfl) T.len PySem.boot_len (pa_cons (pv 0) pa_nil)) (pe_glob (v := .int 6) rfl e1 ⟨_, rfl⟩)))))) (pss_one (ps_ret pe_bl)) pss_nil)
      (pss_one (ps_ret (pe_allG (k := 5) (P := Pt) hr (by rfl) T.all TB rfl ⟨rfl, rfl, by decide +kernel, by decide +kernel, rfl, rfl⟩ (pi_tup (pv 0))
        (fun A' code s4 H4 fp hr' => pe_call W hr' (by rfl) mgg kp bd .nil pass0 (pa_cons (pv 0) (pa_cons (pe_glob (v := .int 10) rfl e2 ⟨_, rfl⟩) pa_nil))) (fun _ => rfl)))), ?_⟩
    have hl : (sV r).length = r.length := List.length_map ..
    have hpos := hL.pos
    refine ⟨_, rfl, _, _, _, _, true, rfl, .ty _, ty_tup hS, kit_ty (by decide +kernel), true, rfl, iteF ⟨_, rfl, a, _, rfl, .inr hS, 1, _, rfl, rfl, true, dT (by omega), iteT ⟨_, 6, rfl, rfl, ?_⟩⟩⟩
    by_cases h6 : r.length ≤ 6
    · refine ⟨true, dT (by omega), iteF ⟨_, rfl, a, rfl, ⟨_, hS⟩, hT _ hm, fun H2 hH2 => ?_⟩⟩
      have x2 := Ex.tabbed hT hm hH2
      refine all_by (w := walk_tup (a := a) (xs := sV r)) (fun i => match r[i]? with | some z => decide (z.length ≤ 10) | none => true) (fun _ H' => Ex cs H H') x2 (fun i H' _ x => x.sqT hS) (fun i v H3 H4 hi x y Z hZ => ?_) (fun H3 x hall => ?_) (fun i H3 hi hff x => ?_)
      · obtain ⟨rfl, hv⟩ := y
        obtain ⟨z, hz, rfl⟩ := get_map hv
        have hg := hL.cells z (List.mem_of_getElem? hz)
        have hg1 := hg.len
        refine ⟨_, rfl, .str z, 10, _, rfl, x.tab, .inr ⟨z, rfl, by omega, rfl⟩, fun H5 x5 => ?_⟩
        rw [sgs_textB hg]
        have := hZ _ (x.trans x5)
        rw [hz] at this
        exact this
      · have e : fitR r = true := hL.fit.mpr (hL.ok h6 fun z hz => by
          obtain ⟨i, hi, e⟩ := List.getElem_of_mem hz
          have q := hall i (by omega)
          rw [List.getElem?_eq_getElem hi, e] at q
          exact of_decide_eq_true q)
        rw [← e]
        exact k _ x
      · have e : fitR r = false := by
          rw [Bool.eq_false_iff]
          intro q
          have o := hL.fit.mp q
          have hi2 : i < r.length := by omega
          rw [List.getElem?_eq_getElem hi2] at hff
          exact absurd (o.cells _ (List.getElem_mem hi2)).len (of_decide_eq_false hff)
        rw [← e]
        exact k _ x
    · refine ⟨false, dF (by omega), iteT ?_⟩
      have e : fitR r = false := by
        rw [Bool.eq_false_iff]
        intro q
        exact h6 (hL.fit.mp q).len
      rw [← e]
      exact k _ (Ex.refl hT)
theorem sc_fits : FnScope ["many", "rows", "row"] ["many", "rows"] (defScope s_check_fits) := ⟨rfl, rfl, rfl, by decide +kernel, rfl, by decide +kernel, by decide +kernel⟩
/-- check_fits -/
def fitsR (m : Int) (new : List (List Str)) : Bool := decide (1 ≤ m ∧ m ≤ 30) && new.all fitR
/-- which class a refused change of rows raises -/
def clsF (R C : Addr) (m : Int) : Addr := if 1 ≤ m ∧ m ≤ 30 then C else R
def spFits (K : PySem.W.Frag) (cs : List (Addr × Addr)) (R C : Addr) : Sp := fun vs H Q E => ∃ (m : Int) (nl : Addr) (nas : List Addr) (new : List (List Str)), vs = [.int m, .ref nl] ∧ Tabs cs H ∧ H nl = some (.lst (nas.map V.ref)) ∧ RowsAt K H nas new ∧ (∀ r ∈ new, RowL r 100 100) ∧
  (fitsR m new = true → ∀ H', Ex cs H H' → Q .non H') ∧ (fitsR m new = false → ∀ H', Ex cs H H' → E (.ref (clsF R C m)) none H')
theorem ok_fits {f g : Addr} {fd fdg : FuncData} (N : Consts mg) (Er : SErr K mg R C G) (F : Fun K "check_fits" "check_fits" s_check_fits f fd)
    (W : FnOk P w K mg base CX0 9 g fdg ["value"] (spRowB K cs)) (kp : PySem.W.keepIn K (.ref g) = true) (bd : Binds K fdg ["value"] []) (mgg : mg "is_row" = some (.ref g)) : FnOk P w K mg base (L2.CX P w) 11 f fd ["many", "rows"] (spFits K cs R C) := by
  refine F.okX sc_fits (fun vs H Q E h => ?_) (fun cdv A outer s H vs Q E hr h => ?_)
  · obtain ⟨m, nl, nas, new, rfl, _⟩ := h
    rfl
  · obtain ⟨m, nl, nas, new, rfl, hT, hN, hA, hL, k1, k2⟩ := h
    have nd := sc_fits.nd
    obtain ⟨t1, e1⟩ := N.rows
    refine ⟨_, pss_cons (ps_if (pt_not (pt_chain op_le op_le pe_int (pv 0) (pe_glob (v := .int 30) rfl e1 ⟨_, rfl⟩)))
        (pss_one (ps_raise rfl (takes_of rfl rfl rfl rfl) (pmk_own PySem.F.excBase_ValueError Er.row.exc Er.row.mg_ Er.row.kp (raises_own Er.row.sub Er.row.ty) rfl))) pss_nil)
      (pss_one (ps_for (passes_of rfl) rfl (pi_list (pv 1)) (pg_name (i := 2) nd rfl (.inl rfl))
        (pss_one (ps_if (pt_not (pt_val (pe_call W (hr.mono (by decide)) (by rfl) mgg kp bd .nil pass0 (pa_cons (pv 2) pa_nil))))
          (pss_one (ps_raise rfl (takes_of rfl rfl rfl rfl) (pmk_own PySem.F.excBase_ValueError Er.cell.exc Er.cell.mg_ Er.cell.kp (raises_own Er.cell.sub Er.cell.ty) rfl))) pss_nil)))), ?_⟩
    have no : ¬ (1 ≤ m ∧ m ≤ 30) → E (.ref R) none H := fun h => by
      have := k2 (by unfold fitsR; rw [decide_eq_false h, Bool.false_and]) _ (Ex.refl hT)
      unfold clsF at this
      rw [if_neg h] at this
      exact this
    refine ⟨_, rfl, 1, m, rfl, rfl, ?_⟩
    by_cases h1 : 1 ≤ m
    · refine ⟨true, dT h1, iteT ⟨m, 30, rfl, rfl, ?_⟩⟩
      by_cases h2 : m ≤ 30
      · refine ⟨true, dT h2, iteF ?_⟩
        have ef : fitsR m new = new.all fitR := by unfold fitsR; rw [decide_eq_true ⟨h1, h2⟩, Bool.true_and]
        rw [ef] at k1 k2
        refine ⟨_, rfl, nl, rfl, ⟨_, SqL.of hN⟩, for_list (xs := nas.map V.ref) (fun i σ H' => Ex cs H H' ∧ (∀ j r, j < i → new[j]? = some r → fitR r = true) ∧ ∃ c, σ = [some (.int m), some (.ref nl), c]) ⟨Ex.refl hT, fun j r hj => absurd hj (Nat.not_lt_zero _), none, rfl⟩ (fun i σ H' _ x => x.1.sqL (SqL.of hN)) ?_ ?_⟩
        · rintro i x σ H3 hx ⟨x3, ha, c, rfl⟩
          obtain ⟨q, hq, rfl⟩ := get_map hx
          have hi2 : i < new.length := by have := (List.getElem?_eq_some_iff.mp hq).1; rw [hA.len] at this; exact this
          obtain ⟨r, hr2⟩ := getP (xs := new) (i := i) hi2
          refine ⟨_, rfl, q, r, rfl, x3.tab, x3.sqT (hA.row i q r hq hr2), hL r (List.mem_of_getElem? hr2), fun H4 x4 => ⟨_, rfl, ?_⟩⟩
          cases e : fitR r with
          | true =>
            refine iteF ⟨x3.trans x4, fun j r' hj e' => ?_, _, rfl⟩
            by_cases hji : j = i
            · subst hji
              rw [hr2] at e'
              cases e'
              exact e
            · exact ha j r' (by omega) e'
          | false =>
            have ec : clsF R C m = C := if_pos ⟨h1, h2⟩
            rw [ec] at k2
            refine iteT (k2 ?_ _ (x3.trans x4))
            rw [Bool.eq_false_iff]
            intro z
            rw [List.all_eq_true] at z
            rw [z r (List.mem_of_getElem? hr2)] at e
            cases e
        · rintro σ H3 ⟨x3, ha, c, rfl⟩
          refine k1 ?_ _ x3
          rw [List.all_eq_true]
          intro r hr2
          obtain ⟨i, hi, e⟩ := List.getElem_of_mem hr2
          exact ha i r (by rw [List.length_map, hA.len]; exact hi) (by rw [List.getElem?_eq_getElem hi, e])
      · exact ⟨false, dF h2, iteT (no fun z => h2 z.2)⟩
    · exact ⟨false, dF h1, iteF ⟨false, rfl, iteT (no fun z => h1 z.1)⟩⟩
end
end TGK

namespace TGK
open TG
open PySem PySem.Spec PyProof.Rows L2 Gx EnT
section
variable {P : Program} {w : World} {K : PySem.W.Frag} {mg : Str → Option Value} {base : Heap} {cs : List (Addr × Addr)} {R C G : Addr}
abbrev nmHalf : List Str := ["rows", "number", "cell", "place", "row", "text"]
def spHalf (K : PySem.W.Frag) : Sp := fun vs H Q _ => ∃ (rl : Addr) (as : List Addr) (rows : List (List Str)) (n c k : Nat) (r : List Str), vs = [.ref rl, .int (n : Nat), .int (c : Nat), .int (k : Nat)] ∧ PageAt K H rl as rows ∧ rows[n]? = some r ∧ RowOk r ∧ c < r.length ∧ k ≤ (r.getD c nilS).length ∧
  ∀ (t p q : Addr) (H' : Hp), Same H H' → H' t = some (.tup [.ref p, .ref q]) → SqT K H' p (sV (halvA r c k)) → SqT K H' q (sV (halvB r c k)) → Q (.ref t) H'
def spJoin (K : PySem.W.Frag) : Sp := fun vs H Q _ => ∃ (a b : Addr) (xs ys : List Str), vs = [.ref a, .ref b] ∧ SqT K H a (sV xs) ∧ SqT K H b (sV ys) ∧ RowL xs 100 100 ∧ RowL ys 100 100 ∧ ∀ (p : Addr) (H' : Hp), Same H H' → SqT K H' p (sV (joinR xs ys)) → Q (.ref p) H'
def spLess (K : PySem.W.Frag) (C : Addr) : Sp := fun vs H Q E => ∃ (a : Addr) (r : List Str), vs = [.ref a] ∧ SqT K H a (sV r) ∧ RowL r 100 100 ∧ (∀ r', lessR r = some r' → ∀ (p : Addr) (H' : Hp), Same H H' → SqT K H' p (sV r') → Q (.ref p) H') ∧ (lessR r = none → E (.ref C) none H)
end
end TGK

namespace TGK
open TG
open PySem PySem.Spec PyProof.Rows L2 Gx EnT
/-! ### the cells that moved -/
abbrev v4 (row i : Nat) (a b : Int) : List V := [.int (row : Nat), .int (i : Nat), .int a, .int b]
def movTo (a b : List Int) (row n : Nat) : List (List V) := (List.range n).filterMap fun i => if a.getD i 0 ≠ b.getD i 0 then some (v4 row i (a.getD i 0) (b.getD i 0)) else none
def movP (a b : List Int) (row : Nat) : List (List V) := movTo a b row a.length
def movL (f g : Nat → List Int) (l : List (Nat × Nat)) : List (List V) := l.flatMap fun p => movP (f p.1) (g p.2) p.2
theorem movTo_succ (a b : List Int) (row n : Nat) : movTo a b row (n + 1) = movTo a b row n ++ if a.getD n 0 ≠ b.getD n 0 then [v4 row n (a.getD n 0) (b.getD n 0)] else [] := by
  unfold movTo
  rw [List.range_succ, List.filterMap_append]
  congr 1
  by_cases h : a.getD n 0 ≠ b.getD n 0
  · rw [if_pos h]
    simp only [List.filterMap_cons, List.filterMap_nil, if_pos h]
  · rw [if_neg h]
    simp only [List.filterMap_cons, List.filterMap_nil, if_neg h]
theorem movTo_len (a b : List Int) (row n : Nat) : (movTo a b row n).length ≤ n := by
  unfold movTo
  exact Nat.le_trans (List.length_filterMap_le ..) (by rw [List.length_range]; exact Nat.le_refl _)
theorem movL_len {f g : Nat → List Int} : ∀ {l : List (Nat × Nat)}, (∀ p ∈ l, (f p.1).length ≤ 6) → (movL f g l).length ≤ 6 * l.length
  | [], _ => by simp [movL]
  | p :: l, h => by
    have ih := movL_len (g := g) fun q hq => h q (List.mem_cons_of_mem _ hq)
    have h1 := h p (List.mem_cons_self ..)
    have h2 := movTo_len (f p.1) (g p.2) p.2 (f p.1).length
    have e : movL f g (p :: l) = movP (f p.1) (g p.2) p.2 ++ movL f g l := by unfold movL; rw [List.flatMap_cons]
    have e2 : (movP (f p.1) (g p.2) p.2).length ≤ (f p.1).length := h2
    rw [e, List.length_append, List.length_cons]
    omega
theorem movL_take {f g : Nat → List Int} {l : List (Nat × Nat)} {n : Nat} {p : Nat × Nat} (h : l[n]? = some p) : movL f g (l.take (n + 1)) = movL f g (l.take n) ++ movP (f p.1) (g p.2) p.2 := by
  unfold movL
  rw [List.take_add_one, h, List.flatMap_append]
  simp
section
variable {P : Program} {w : World} {K : PySem.W.Frag} {mg : Str → Option Value} {base : Heap} {cs : List (Addr × Addr)} {R C G : Addr}
/-- a list of new pairs -/
structure PairL (H : Hp) (o : Addr) (l : List (Nat × Nat)) : Prop where
  ts : ∃ ts : List Addr, H o = some (.lst (ts.map V.ref)) ∧ ts.length = l.length ∧ ∀ (j : Nat) (t : Addr) (p : Nat × Nat), ts[j]? = some t → l[j]? = some p → H t = some (.tup [.int (p.1 : Nat), .int (p.2 : Nat)])
theorem PairL.same {H H' : Hp} {o : Addr} {l : List (Nat × Nat)} (x : Same H H') (h : PairL H o l) : PairL H' o l := by
  obtain ⟨ts, h1, h2, h3⟩ := h.ts
  exact ⟨ts, x _ _ h1, h2, fun j t p e1 e2 => x _ _ (h3 j t p e1 e2)⟩
def spMov : Sp := fun vs H Q _ => ∃ (r0 r1 o : Addr) (es0 es1 : List Addr) (f g : Nat → List Int) (n0 n1 : Nat) (l : List (Nat × Nat)), vs = [.ref r0, .ref r1, .ref o] ∧ ToldAt H r0 es0 f n0 ∧ ToldAt H r1 es1 g n1 ∧ PairL H o l ∧
  (∀ p ∈ l, p.1 < n0 ∧ p.2 < n1 ∧ (f p.1).length = (g p.2).length ∧ (f p.1).length ≤ 6) ∧ l.length ≤ 60 ∧ ∀ (D : Addr) (H' : Hp), TupL H D (movL f g l) H' → Q (.ref D) H'
abbrev nmMov : List Str := ["before", "after", "others", "told", "was", "row", "cell", "began", "begins"]
theorem sc_mov : FnScope nmMov ["before", "after", "others"] (defScope s_pmoved) := ⟨rfl, rfl, rfl, by decide +kernel, rfl, by decide +kernel, by decide +kernel⟩
theorem vint_ne {a b : Int} : (!decide (V.int a = V.int b)) = decide (a ≠ b) := by
  by_cases h : a = b
  · rw [decide_eq_true (by rw [h]), decide_eq_false (by simp [h])]
    rfl
  · rw [decide_eq_false (fun z => h (by injection z)), decide_eq_true h]
    rfl
theorem TupL.lst {H0 H : Hp} {D : Addr} {l : List (List V)} (o : TupL H0 D l H) : ∃ acc, H D = some (.lst acc) ∧ acc.length = l.length := by
  obtain ⟨ts, h1, h2, _⟩ := o.ts
  exact ⟨_, h1, by rw [List.length_map, h2]⟩
theorem ok_mov {f : Addr} {fd : FuncData} (T : Txt mg) (hz : mg "zip" = none) (F : Fun K "moved" "moved" s_pmoved f fd) : FnOk P w K mg base CX0 1 f fd ["before", "after", "others"] spMov := by
  refine F.ok sc_mov (fun vs H Q E h => ?_) (fun cdv A outer s H vs Q E hr h => ?_)
  · obtain ⟨r0, r1, o, es0, es1, f, g, n0, n1, l, rfl, _⟩ := h
    rfl
  · obtain ⟨r0, r1, o, es0, es1, f, g, n0, n1, l, rfl, h0, h1, hL, hl, h60, kq⟩ := h
    have nd := sc_mov.nd
    refine ⟨_, pss_cons (ps_set (i := 3) nd rfl (.inl rfl) (pe_lst pa_nil))
      (pss_cons (ps_for PassesOwn.never rfl (pi_list (pv 2)) (pg_tup rfl (pgs_cons (pg_name (i := 4) nd rfl (.inl rfl)) (pgs_cons (pg_name (i := 5) nd rfl (.inl rfl)) pgs_nil)))
        (pss_one (ps_for PassesOwn.never rfl (pi_enumZip (by rfl) T.enum (by rfl) hz (pa_cons (pe_ix ix_list (pv 0) (pv 4) (fun _ _ => rfl)) (pa_cons (pe_ix ix_list (pv 1) (pv 5) (fun _ _ => rfl)) pa_nil)))
          (pg_tup rfl (pgs_cons (pg_name (i := 6) nd rfl (.inl rfl)) (pgs_cons (pg_tup rfl (pgs_cons (pg_name (i := 7) nd rfl (.inl rfl)) (pgs_cons (pg_name (i := 8) nd rfl (.inl rfl)) pgs_nil))) pgs_nil)))
          (pss_one (ps_if (pt_cmpR op_ne (pv 7) (pv 8) (nomark _)) (pss_one (ps_expr (pe_bm PySem.F.plainAttrs_list PySem.F.slot_list_append PySem.F.type_list_append mt_append (pv 3) (pa_cons (pe_tup (pa_cons (pv 5) (pa_cons (pv 6) (pa_cons (pv 7) (pa_cons (pv 8) pa_nil))))) pa_nil)))) pss_nil)))))
      (pss_one (ps_ret (pv 3)))), ?_⟩
    refine ⟨small0, fun D nD => ?_⟩
    have o0 := TupL.start nD
    have szl : (1000 : Nat) < sizeLine := by decide
    obtain ⟨ts, t1, t2, t3⟩ := id hL.ts
    refine ⟨_, rfl, o, rfl, ⟨_, SqL.of (o0.sm _ _ t1)⟩, for_list (xs := ts.map V.ref) (fun i σ H' => TupL H D (movL f g (l.take i)) H' ∧ ∃ c4 c5 c6 c7 c8 : Option V, σ = [some (.ref r0), some (.ref r1), some (.ref o), some (.ref D), c4, c5, c6, c7, c8]) ⟨o0, none, none, none, none, none, rfl⟩ (fun i σ H' _ x => SqL.of (x.1.sm _ _ t1)) ?_ ?_⟩
    · rintro i x σ H1 hx ⟨o1, c4, c5, c6, c7, c8, rfl⟩
      obtain ⟨t, ht, rfl⟩ := get_map hx
      obtain ⟨p, hp⟩ := getP (xs := l) (i := i) (by rw [← t2]; exact (List.getElem?_eq_some_iff.mp ht).1)
      have hi : i < l.length := (List.getElem?_eq_some_iff.mp hp).1
      obtain ⟨q1, q2, q3, q4⟩ := hl p (List.mem_of_getElem? hp)
      have htt := o1.sm _ _ (t3 i t p ht hp)
      obtain ⟨e0, he0⟩ := getP (xs := es0) (i := p.1) (by rw [h0.len]; exact q1)
      obtain ⟨e1, he1⟩ := getP (xs := es1) (i := p.2) (by rw [h1.len]; exact q2)
      have a0 := h0.at_ p.1 e0 he0
      have a1 := h1.at_ p.2 e1 he1
      refine ⟨t, _, rfl, SqT.of htt, rfl, _, _, rfl, _, _, rfl, rfl, ?_⟩
      refine ⟨_, rfl, _, rfl, r0, _, _, .ref e0, rfl, rfl, SqL.of (o1.sm _ _ h0.lst), atI_nat (by rw [List.getElem?_map, he0]; rfl), _, rfl, _, rfl, r1, _, _, .ref e1, rfl, rfl, SqL.of (o1.sm _ _ h1.lst), atI_nat (by rw [List.getElem?_map, he1]; rfl), ?_⟩
      refine ⟨e0, e1, _, _, rfl, SqL.of (o1.sm _ _ a0), SqL.of (o1.sm _ _ a1), ?_⟩
      refine for_it (walk_ez (xs := (f p.1).map V.int) (ys := (g p.2).map V.int) (by rw [List.length_map, List.length_map, q3])) (fun j σ H' => TupL H D (movL f g (l.take i) ++ movTo (f p.1) (g p.2) p.2 j) H' ∧ ∃ c6 c7 c8 : Option V, σ = [some (.ref r0), some (.ref r1), some (.ref o), some (.ref D), some (.int (p.1 : Nat)), some (.int (p.2 : Nat)), c6, c7, c8]) ⟨by simpa [movTo] using o1, c6, c7, c8, rfl⟩ (fun j σ H' _ x => ⟨SqL.of (x.1.sm _ _ a0), SqL.of (x.1.sm _ _ a1)⟩) ?_ ?_
      · rintro j v σ H2 H3 hj ⟨o2, c6, c7, c8, rfl⟩ ⟨S, T', x, y, rfl, nS, nT, rfl, hx, hy⟩
        obtain ⟨xa, hxa, rfl⟩ := get_map hx
        obtain ⟨ya, hya, rfl⟩ := get_map hy
        have exa : (f p.1).getD j 0 = xa := by rw [List.getD_eq_getElem?_getD, hxa]; rfl
        have eya : (g p.2).getD j 0 = ya := by rw [List.getD_eq_getElem?_getD, hya]; rfl
        have x3 := same_tr (same_new (o := .tup [.int xa, .int ya]) nS) (same_new (o := .tup [.int (j : Nat), .ref S]) nT)
        have hS : upd (upd H2 S (.tup [.int xa, .int ya])) T' (.tup [.int (j : Nat), .ref S]) S = some (.tup [.int xa, .int ya]) := by rw [upd_ne (ne_of_none upd_same nT), upd_same]
        have o3 := o2.grow x3
        have hT3 : upd (upd H2 S (.tup [.int xa, .int ya])) T' (.tup [.int (j : Nat), .ref S]) T' = some (.tup [.int (j : Nat), .ref S]) := upd_same
        generalize upd (upd H2 S (.tup [.int xa, .int ya])) T' (.tup [.int (j : Nat), .ref S]) = H3 at x3 hS o3 hT3 ⊢
        refine ⟨T', _, rfl, SqT.of hT3, rfl, _, _, rfl, _, _, rfl, ⟨S, _, rfl, SqT.of hS, rfl, _, _, rfl, _, _, rfl, rfl, rfl, ?_⟩⟩
        refine ⟨_, rfl, _, rfl, rfl, _, rfl, ?_⟩
        rw [vint_ne, movTo_succ, exa, eya]
        have hj2 : j < 6 := by have := hj; rw [List.length_map] at this; omega
        by_cases hne : xa ≠ ya
        · rw [decide_eq_true hne, if_pos hne]
          obtain ⟨acc0, w1, _⟩ := o3.lst
          refine iteT ⟨_, rfl, .inl ⟨rfl, _, SqL.of w1⟩, _, rfl, _, rfl, _, rfl, _, rfl, by show 4 ≤ sizeLine; decide, fun t4 nt4 => ?_⟩
          have o4 := o3.grow (same_new (o := .tup (v4 p.2 j xa ya)) nt4)
          obtain ⟨acc, w1, w2, w3⟩ := o4.more (t := t4) (v := v4 p.2 j xa ya) upd_same
          refine ⟨D, acc, _, rfl, rfl, w1, ?_, ?_⟩
          · have b1 := movTo_len (f p.1) (g p.2) p.2 j
            have b2 := movL_len (f := f) (g := g) (l := l.take i) fun q hq => (hl q (List.mem_of_mem_take hq)).2.2.2
            rw [List.length_take] at b2
            rw [w2, List.length_append]
            omega
          · rw [List.append_assoc] at w3
            exact ⟨w3, _, _, _, rfl⟩
        · rw [decide_eq_false hne, if_neg hne, List.append_nil]
          exact iteF ⟨o3, _, _, _, rfl⟩
      · rintro σ H2 ⟨o2, c6, c7, c8, rfl⟩
        refine ⟨?_, _, _, _, _, _, rfl⟩
        rw [movL_take hp]
        rw [List.length_map] at o2
        exact o2
    · rintro σ H1 ⟨o1, c4, c5, c6, c7, c8, rfl⟩
      rw [List.length_map, t2, List.take_of_length_le (Nat.le_refl _)] at o1
      exact ⟨_, rfl, kq D H1 o1⟩
end
end TGK

namespace TGK
open TG
open PySem PySem.Spec PyProof.Rows L2 Gx EnT
/-! ### a sheet, and the deeds that stand -/
/-- all but two lists stay -/
def NT (cs : List (Addr × Addr)) (c : Addr) (o : HO) : Prop := (∀ ps, o ≠ .tbl ps) ∨ ∀ p ∈ cs, p.2 ≠ c
def XN (cs : List (Addr × Addr)) (H H' : Hp) : Prop := ∀ b o, H b = some o → NT cs b o → H' b = some o
theorem xn_ex {cs : List (Addr × Addr)} {H H' : Hp} (x : Ex cs H H') : XN cs H H' := fun b o h n => n.elim (fun z => x.ext b o h z) fun z => x.oth b o h z
theorem same_xn {cs : List (Addr × Addr)} {H H' : Hp} (x : Same H H') : XN cs H H' := fun b o h _ => x b o h
theorem xn_tr {cs : List (Addr × Addr)} {H H1 H' : Hp} (x : XN cs H H1) (y : XN cs H1 H') : XN cs H H' := fun b o h n => y b o (x b o h n) n
def ExtS (cs : List (Addr × Addr)) (rl dl : Addr) (H H' : Hp) : Prop := ∀ b o, H b = some o → NT cs b o → b ≠ rl → b ≠ dl → H' b = some o
theorem ExtS.of {cs : List (Addr × Addr)} {rl dl : Addr} {H H' : Hp} (x : XN cs H H') : ExtS cs rl dl H H' := fun b o h n _ _ => x b o h n
theorem ExtS.tr {cs : List (Addr × Addr)} {rl dl : Addr} {H H1 H' : Hp} (x : ExtS cs rl dl H H1) (y : ExtS cs rl dl H1 H') : ExtS cs rl dl H H' := fun b o h n m1 m2 => y b o (x b o h n m1 m2) n m1 m2
theorem ExtS.gw {cs : List (Addr × Addr)} {rl dl : Addr} {H H1 H' : Hp} (x : ExtS cs rl dl H H1) (y : XN cs H1 H') : ExtS cs rl dl H H' := fun b o h n m1 m2 => y b o (x b o h n m1 m2) n
theorem ExtS.after {cs : List (Addr × Addr)} {rl dl : Addr} {H H1 H' : Hp} (x : XN cs H H1) (y : ExtS cs rl dl H1 H') : ExtS cs rl dl H H' := fun b o h n m1 m2 => y b o (x b o h n) n m1 m2
theorem sqT_exs {K : PySem.W.Frag} {H H' : Hp} {a rl dl : Addr} {xs us ws : List V} {cs : List (Addr × Addr)} (x : ExtS cs rl dl H H') (h1 : H rl = some (.lst us)) (h2 : H dl = some (.lst ws)) (h : SqT K H a xs) : SqT K H' a xs := by
  rcases h with (h | ⟨u, h⟩) | h
  · exact .inl (.inl (x _ _ h (.inl fun ps z => by cases z) (fun z => by rw [z, h1] at h; cases h) fun z => by rw [z, h2] at h; cases h))
  · exact .inl (.inr ⟨u, x _ _ h (.inl fun ps z => by cases z) (fun z => by rw [z, h1] at h; cases h) fun z => by rw [z, h2] at h; cases h⟩)
  · exact .inr h
theorem tup_exs {H H' : Hp} {t rl dl : Addr} {xs us ws : List V} {cs : List (Addr × Addr)} (x : ExtS cs rl dl H H') (h1 : H rl = some (.lst us)) (h2 : H dl = some (.lst ws)) (h : H t = some (.tup xs)) : H' t = some (.tup xs) :=
  x _ _ h (.inl fun ps z => by cases z) (fun z => by rw [z, h1] at h; cases h) fun z => by rw [z, h2] at h; cases h
theorem RowsAt.exs {K : PySem.W.Frag} {H H' : Hp} {rl dl : Addr} {us ws : List V} {as : List Addr} {rows : List (List Str)} {cs : List (Addr × Addr)} (x : ExtS cs rl dl H H') (h1 : H rl = some (.lst us)) (h2 : H dl = some (.lst ws)) (p : RowsAt K H as rows) : RowsAt K H' as rows := ⟨p.len, fun i q r e1 e2 => sqT_exs x h1 h2 (p.row i q r e1 e2)⟩
theorem RowsAt.gw {K : PySem.W.Frag} {H H' : Hp} {as : List Addr} {rows : List (List Str)} (x : LamX.ExtN H H') (p : RowsAt K H as rows) : RowsAt K H' as rows := ⟨p.len, fun i q r e1 e2 => by
  rcases p.row i q r e1 e2 with (h | ⟨u, h⟩) | h
  · exact .inl (.inl (x _ _ h fun ps z => by cases z))
  · exact .inl (.inr ⟨u, x _ _ h fun ps z => by cases z⟩)
  · exact .inr h⟩
theorem _root_.TG.StyleAt.exs {K : PySem.W.Frag} {H H' : Hp} {rl dl st : Addr} {us ws : List V} {gap least : Int} {cs : List (Addr × Addr)} (x : ExtS cs rl dl H H') (h1 : H rl = some (.lst us)) (h2 : H dl = some (.lst ws)) (p : StyleAt K H st gap least) : StyleAt K H' st gap least := ⟨sqT_exs x h1 h2 p.tup, p.g0, p.g1, p.l0, p.l1⟩
theorem _root_.TG.StyleAt.gwN {K : PySem.W.Frag} {H H' : Hp} {a : Addr} {gap least : Int} (p : StyleAt K H a gap least) (x : LamX.ExtN H H') : StyleAt K H' a gap least := ⟨by
  rcases p.tup with (h | ⟨u, h⟩) | h
  · exact .inl (.inl (x _ _ h fun ps z => by cases z))
  · exact .inl (.inr ⟨u, x _ _ h fun ps z => by cases z⟩)
  · exact .inr h, p.g0, p.g1, p.l0, p.l1⟩
theorem RowsAt.app {K : PySem.W.Frag} {H : Hp} {as bs : List Addr} {rows ss : List (List Str)} (p : RowsAt K H as rows) (q : RowsAt K H bs ss) : RowsAt K H (as ++ bs) (rows ++ ss) := by
  refine ⟨by rw [List.length_append, List.length_append, p.len, q.len], fun i a r e1 e2 => ?_⟩
  by_cases h : i < as.length
  · rw [List.getElem?_append_left h] at e1
    rw [List.getElem?_append_left (by rw [← p.len]; exact h)] at e2
    exact p.row i a r e1 e2
  · rw [List.getElem?_append_right (by omega)] at e1
    rw [List.getElem?_append_right (by rw [← p.len]; omega), ← p.len] at e2
    exact q.row _ a r e1 e2
theorem RowsAt.take {K : PySem.W.Frag} {H : Hp} {as : List Addr} {rows : List (List Str)} (p : RowsAt K H as rows) (n : Nat) : RowsAt K H (as.take n) (rows.take n) := by
  refine ⟨by rw [List.length_take, List.length_take, p.len], fun i a r e1 e2 => ?_⟩
  rw [List.getElem?_take] at e1 e2
  by_cases h : i < n
  · rw [if_pos h] at e1 e2
    exact p.row i a r e1 e2
  · rw [if_neg h] at e1
    cases e1
theorem RowsAt.drop {K : PySem.W.Frag} {H : Hp} {as : List Addr} {rows : List (List Str)} (p : RowsAt K H as rows) (n : Nat) : RowsAt K H (as.drop n) (rows.drop n) := by
  refine ⟨by rw [List.length_drop, List.length_drop, p.len], fun i a r e1 e2 => ?_⟩
  rw [List.getElem?_drop] at e1 e2
  exact p.row _ a r e1 e2
/-- some in the place of so many from a number on -/
def splice {α : Type} (xs : List α) (n m : Nat) (new : List α) : List α := xs.take n ++ new ++ xs.drop (n + m)
theorem RowsAt.splice {K : PySem.W.Frag} {H : Hp} {as bs : List Addr} {rows new : List (List Str)} {n m : Nat} (p : RowsAt K H as rows) (q : RowsAt K H bs new) : RowsAt K H (splice as n m bs) (splice rows n m new) := ((p.take n).app q).app (p.drop (n + m))
theorem splice_len {α : Type} {xs new : List α} {n m : Nat} (h : n + m ≤ xs.length) : (splice xs n m new).length = xs.length - m + new.length := by
  unfold splice
  rw [List.length_append, List.length_append, List.length_take, List.length_drop]
  omega
theorem splice_back {α : Type} {xs new : List α} {n m : Nat} (h : n + m ≤ xs.length) : splice (splice xs n m new) n new.length ((xs.drop n).take m) = xs := by
  unfold splice
  have l1 : (xs.take n).length = n := by rw [List.length_take]; omega
  have e1 : (xs.take n ++ new ++ xs.drop (n + m)).take n = xs.take n := by
    rw [List.append_assoc, List.take_append_of_le_length (by omega), List.take_of_length_le (by omega)]
  have e2 : (xs.take n ++ new ++ xs.drop (n + m)).drop (n + new.length) = xs.drop (n + m) := by
    rw [List.drop_append_of_le_length (by rw [List.length_append]; omega), List.drop_eq_nil_of_le (by rw [List.length_append]; omega), List.nil_append]
  rw [e1, e2, List.append_assoc]
  have e3 : (xs.drop n).take m ++ xs.drop (n + m) = xs.drop n := by
    rw [← List.drop_drop]
    exact List.take_append_drop m (xs.drop n)
  rw [e3]
  exact List.take_append_drop n xs
/-- the deeds that stand, the last one first: where, how many rows it laid, and those that were there; the pages ahead of them -/
def PastAt (K : PySem.W.Frag) (H : Hp) (rl dl : Addr) (av : Addr → Prop) : List Addr → List Addr → List (List (List Str)) → Prop
  | _, [], [] => True
  | as, t :: ts, rows :: ps => (∃ (n m : Nat) (oas : List Addr) (l : Addr), H t = some (.tup [.int (n : Nat), .int (m : Nat), .ref l]) ∧ H l = some (.lst (oas.map V.ref)) ∧ l ≠ rl ∧ l ≠ dl ∧ ¬ av l ∧ n + m ≤ as.length ∧ oas.length ≤ 30 ∧ RowsAt K H (splice as n m oas) rows ∧ PgOk rows ∧ PastAt K H rl dl av (splice as n m oas) ts ps)
  | _, _, _ => False
theorem PastAt.exs {K : PySem.W.Frag} {H H' : Hp} {rl dl : Addr} {av : Addr → Prop} {us ws : List V} {cs : List (Addr × Addr)} (x : ExtS cs rl dl H H') (h1 : H rl = some (.lst us)) (h2 : H dl = some (.lst ws)) : ∀ {ts : List Addr} {as : List Addr} {ps : List (List (List Str))}, PastAt K H rl dl av as ts ps → PastAt K H' rl dl av as ts ps
  | [], _, [], _ => by unfold PastAt; trivial
  | [], _, _ :: _, h => by unfold PastAt at h; exact h.elim
  | _ :: _, _, [], h => by unfold PastAt at h; exact h.elim
  | t :: ts, as, rows :: ps, h => by
    unfold PastAt at h ⊢
    obtain ⟨n, m, oas, l, g1, g2, g3, g4, ga, g5, g6, g7, g8, g9⟩ := h
    exact ⟨n, m, oas, l, tup_exs x h1 h2 g1, x _ _ g2 (.inl fun ps z => by cases z) g3 g4, g3, g4, ga, g5, g6, g7.exs x h1 h2, g8, PastAt.exs x h1 h2 g9⟩
theorem PastAt.gw {K : PySem.W.Frag} {H H' : Hp} {rl dl : Addr} {av : Addr → Prop} (x : LamX.ExtN H H') : ∀ {ts : List Addr} {as : List Addr} {ps : List (List (List Str))}, PastAt K H rl dl av as ts ps → PastAt K H' rl dl av as ts ps
  | [], _, [], _ => by unfold PastAt; trivial
  | [], _, _ :: _, h => by unfold PastAt at h; exact h.elim
  | _ :: _, _, [], h => by unfold PastAt at h; exact h.elim
  | t :: ts, as, rows :: ps, h => by
    unfold PastAt at h ⊢
    obtain ⟨n, m, oas, l, g1, g2, g3, g4, ga, g5, g6, g7, g8, g9⟩ := h
    exact ⟨n, m, oas, l, x _ _ g1 (fun ps z => by cases z), x _ _ g2 (fun ps z => by cases z), g3, g4, ga, g5, g6, g7.gw x, g8, PastAt.gw x g9⟩
theorem PastAt.len {K : PySem.W.Frag} {H : Hp} {rl dl : Addr} {av : Addr → Prop} : ∀ {ts : List Addr} {as : List Addr} {ps : List (List (List Str))}, PastAt K H rl dl av as ts ps → ts.length = ps.length
  | [], _, [], _ => rfl
  | [], _, _ :: _, h => by unfold PastAt at h; exact h.elim
  | _ :: _, _, [], h => by unfold PastAt at h; exact h.elim
  | t :: ts, as, rows :: ps, h => by
    unfold PastAt at h
    obtain ⟨n, m, oas, l, g1, g2, g3, g4, ga, g5, g6, g7, g8, g9⟩ := h
    rw [List.length_cons, List.length_cons, PastAt.len g9]
theorem PastAt.less {K : PySem.W.Frag} {H : Hp} {rl dl : Addr} {av av2 : Addr → Prop} (z : ∀ x, av2 x → av x) : ∀ {ts : List Addr} {as : List Addr} {ps : List (List (List Str))}, PastAt K H rl dl av as ts ps → PastAt K H rl dl av2 as ts ps
  | [], _, [], _ => by unfold PastAt; trivial
  | [], _, _ :: _, h => by unfold PastAt at h; exact h.elim
  | _ :: _, _, [], h => by unfold PastAt at h; exact h.elim
  | t :: ts, as, rows :: ps, h => by
    unfold PastAt at h ⊢
    obtain ⟨n, m, oas, l, g1, g2, g3, g4, ga, g5, g6, g7, g8, g9⟩ := h
    exact ⟨n, m, oas, l, g1, g2, g3, g4, fun q => ga (z _ q), g5, g6, g7, g8, PastAt.less z g9⟩
theorem PastAt.more {K : PySem.W.Frag} {H : Hp} {rl dl D : Addr} {av : Addr → Prop} (n : H D = none) : ∀ {ts : List Addr} {as : List Addr} {ps : List (List (List Str))}, PastAt K H rl dl av as ts ps → PastAt K H rl dl (fun x => av x ∨ x = D) as ts ps
  | [], _, [], _ => by unfold PastAt; trivial
  | [], _, _ :: _, h => by unfold PastAt at h; exact h.elim
  | _ :: _, _, [], h => by unfold PastAt at h; exact h.elim
  | t :: ts, as, rows :: ps, h => by
    unfold PastAt at h ⊢
    obtain ⟨n', m, oas, l, g1, g2, g3, g4, ga, g5, g6, g7, g8, g9⟩ := h
    exact ⟨n', m, oas, l, g1, g2, g3, g4, (fun q => q.elim ga fun e => by rw [e, n] at g2; cases g2), g5, g6, g7, g8, PastAt.more n g9⟩
/-- objects that stand and are no tables -/
def Live (H : Hp) (av : Addr → Prop) : Prop := ∀ x, av x → ∃ o, H x = some o ∧ ∀ ps, o ≠ .tbl ps
structure ShtD (K : PySem.W.Frag) (S : Addr) (H : Hp) (sh rl dl st : Addr) (as : List Addr) (rows : List (List Str)) (gap least : Int) (ts : List Addr) (ps : List (List (List Str))) (av : Addr → Prop) : Prop where
  she : ∃ dx, H sh = some (.ins S dx [("rows", .ref rl), ("style", .ref st), ("deeds", .ref dl)])
  rl_ : H rl = some (.lst (as.map V.ref))
  dl_ : H dl = some (.lst (ts.reverse.map V.ref))
  ne : rl ≠ dl
  at_ : RowsAt K H as rows
  ok : PgOk rows
  style : StyleAt K H st gap least
  past : PastAt K H rl dl av as ts ps
  live : Live H av
structure ShC (K : PySem.W.Frag) (S : Addr) : Prop where
  cS : Cls K S
  nRows : NoAttr K S "rows"
  nStyle : NoAttr K S "style"
  nDeeds : NoAttr K S "deeds"
section
variable {K : PySem.W.Frag} {S sh rl dl st : Addr} {H H' : Hp} {as : List Addr} {rows : List (List Str)} {gap least : Int} {ts : List Addr} {ps : List (List (List Str))} {av : Addr → Prop}
theorem ShtD.gw (o : ShtD K S H sh rl dl st as rows gap least ts ps av) (x : LamX.ExtN H H') : ShtD K S H' sh rl dl st as rows gap least ts ps av := by
  obtain ⟨dx, h1⟩ := o.she
  exact ⟨⟨dx, x _ _ h1 fun ps z => by cases z⟩, x _ _ o.rl_ (fun ps z => by cases z), x _ _ o.dl_ (fun ps z => by cases z), o.ne, o.at_.gw x, o.ok, o.style.gwN x, o.past.gw x, fun y hy => by
    obtain ⟨u, e, n⟩ := o.live y hy
    exact ⟨u, x _ _ e n, n⟩⟩
theorem ShtD.less {av2 : Addr → Prop} (o : ShtD K S H sh rl dl st as rows gap least ts ps av) (z : ∀ x, av2 x → av x) : ShtD K S H sh rl dl st as rows gap least ts ps av2 := ⟨o.she, o.rl_, o.dl_, o.ne, o.at_, o.ok, o.style, o.past.less z, fun y hy => o.live y (z y hy)⟩
theorem ShtD.live2 (o : ShtD K S H sh rl dl st as rows gap least ts ps av) {cs : List (Addr × Addr)} (x : ExtS cs rl dl H H') {us ws : List V} (h1 : H' rl = some (.lst us)) (h2 : H' dl = some (.lst ws)) : Live H' av := fun y hy => by
  obtain ⟨u, e, n⟩ := o.live y hy
  by_cases q1 : y = rl
  · exact ⟨_, by rw [q1]; exact h1, fun ps z => by cases z⟩
  · by_cases q2 : y = dl
    · exact ⟨_, by rw [q2]; exact h2, fun ps z => by cases z⟩
    · exact ⟨u, x _ _ e (.inl n) q1 q2, n⟩
theorem ShtD.new {D : Addr} {xs : List V} (o : ShtD K S H sh rl dl st as rows gap least ts ps av) (n : H D = none) (x : LamX.ExtN H H') (hD : H' D = some (.lst xs)) : ShtD K S H' sh rl dl st as rows gap least ts ps (fun y => av y ∨ y = D) := by
  have o2 := o.gw x
  exact ⟨o2.she, o2.rl_, o2.dl_, o2.ne, o2.at_, o2.ok, o2.style, (o.past.more n).gw x, fun y hy => by
    rcases hy with q | q
    · exact o2.live y q
    · exact ⟨.lst xs, by rw [q]; exact hD, fun ps z => by cases z⟩⟩
theorem ShtD.page (o : ShtD K S H sh rl dl st as rows gap least ts ps av) : PageAt K H rl as rows := ⟨SqL.of o.rl_, o.at_.len, o.at_.row⟩
theorem ShtD.ns (o : ShtD K S H sh rl dl st as rows gap least ts ps av) : sh ≠ rl ∧ sh ≠ dl := by
  obtain ⟨dx, h1⟩ := o.she
  exact ⟨(fun z => by rw [z, o.rl_] at h1; cases h1), (fun z => by rw [z, o.dl_] at h1; cases h1)⟩
end
section
variable {P : Program} {w : World} {K : PySem.W.Frag} {mg : Str → Option Value} {base : Heap} {cs : List (Addr × Addr)} {S : Addr}
/-- Sheet.page -/
def spShPage (K : PySem.W.Frag) (S : Addr) : Sp := fun vs H Q _ => ∃ (sh rl dl st : Addr) (as : List Addr) (rows : List (List Str)) (gap least : Int) (ts : List Addr) (ps : List (List (List Str))) (av : Addr → Prop), vs = [.ref sh] ∧ ShtD K S H sh rl dl st as rows gap least ts ps av ∧ ∀ r, H r = none → Q (.ref r) (upd H r (.lst (as.map V.ref)))
theorem sc_self : FnScope ["self"] ["self"] (defScope (mth nSheet 9)) := ⟨rfl, rfl, rfl, by decide +kernel, rfl, by decide +kernel, by decide +kernel⟩
theorem ok_shpage {f : Addr} {fd : FuncData} (T : Txt mg) (X : ShC K S) (F : Fun K "page" "Sheet.page" (mth nSheet 9) f fd) : FnOk P w K mg base CX0 1 f fd ["self"] (spShPage K S) := by
  refine F.ok sc_self (fun vs H Q E h => ?_) (fun cdv A outer s H vs Q E hr h => ?_)
  · obtain ⟨sh, rl, dl, st, as, rows, gap, least, ts, ps, av, rfl, _⟩ := h
    rfl
  · obtain ⟨sh, rl, dl, st, as, rows, gap, least, ts, ps, av, rfl, hS, k⟩ := h
    refine ⟨_, pss_one (ps_ret (pe_callTy call_list_of (by rfl) T.list (by decide +kernel) (pa_cons (pe_fld (pv 0) rfl) pa_nil))), ?_⟩
    obtain ⟨dx, h1⟩ := hS.she
    exact ⟨_, rfl, sh, S, dx, _, _, rfl, h1, X.cS, X.nRows, rfl, rl, _, rfl, .inl hS.page.lst, fun r nr => k r nr⟩
/-- Sheet.begins -/
def spShBegins (K : PySem.W.Frag) (cs : List (Addr × Addr)) (S : Addr) : Sp := fun vs H Q _ => ∃ (sh rl dl st : Addr) (as : List Addr) (rows : List (List Str)) (gap least : Int) (ts : List Addr) (ps : List (List (List Str))) (av : Addr → Prop), vs = [.ref sh] ∧ Tabs cs H ∧ ShtD K S H sh rl dl st as rows gap least ts ps av ∧
  ∀ (r : Addr) (es : List Addr) (H' : Hp), Ex cs H H' → H r = none → (∀ e ∈ es, H e = none ∧ e ≠ r) → ToldAt H' r es (begsR rows gap least) rows.length → Q (.ref r) H'
theorem sc_selfB : FnScope ["self"] ["self"] (defScope (mth nSheet 10)) := ⟨rfl, rfl, rfl, by decide +kernel, rfl, by decide +kernel, by decide +kernel⟩
theorem ok_shbegins {f g : Addr} {fd fdg : FuncData} (X : ShC K S) (F : Fun K "begins" "Sheet.begins" (mth nSheet 10) f fd)
    (G : FnOk P w K mg base CX0 14 g fdg ["page", "style"] (spTold K cs begsR)) (kp : PySem.W.keepIn K (.ref g) = true) (bd : Binds K fdg ["page", "style"] []) (mgg : mg "laid" = some (.ref g)) : FnOk P w K mg base CX0 15 f fd ["self"] (spShBegins K cs S) := by
  refine F.ok sc_selfB (fun vs H Q E h => ?_) (fun cdv A outer s H vs Q E hr h => ?_)
  · obtain ⟨sh, rl, dl, st, as, rows, gap, least, ts, ps, av, rfl, _⟩ := h
    rfl
  · obtain ⟨sh, rl, dl, st, as, rows, gap, least, ts, ps, av, rfl, hT, hS, k⟩ := h
    refine ⟨_, pss_one (ps_ret (pe_call G hr (by rfl) mgg kp bd .nil pass0 (pa_cons (pe_fld (pv 0) rfl) (pa_cons (pe_fld (pv 0) rfl) pa_nil)))), ?_⟩
    obtain ⟨dx, h1⟩ := hS.she
    exact ⟨_, rfl, sh, S, dx, _, _, rfl, h1, X.cS, X.nRows, rfl, _, rfl, sh, S, dx, _, _, rfl, h1, X.cS, X.nStyle, rfl, rl, st, as, rows, gap, least, rfl, hT, hS.page, hS.ok, hS.style, fun r es H' x nr ne tA => k r es H' x nr ne tA⟩
/-- Sheet.__init__ -/
def spShInit (K : PySem.W.Frag) (cs : List (Addr × Addr)) (S : Addr) : Sp := fun vs H Q _ => ∃ (sh a st dx : Addr) (as : List Addr) (rows : List (List Str)) (gap least : Int), vs = [.ref sh, .ref a, .ref st] ∧ Tabs cs H ∧ H sh = some (.ins S dx []) ∧ PageAt K H a as rows ∧ PgOk rows ∧ StyleAt K H st gap least ∧
  ∀ (rl dl : Addr) (H' : Hp), (∀ b o, H b = some o → NT cs b o → b ≠ sh → H' b = some o) → Tabs cs H' → (∀ b, H' b = none → H b = none) → ShtD K S H' sh rl dl st as rows gap least [] [] (fun _ => False) → H rl = none → H dl = none → Q .non H'
theorem sc_shinit : FnScope ["self", "page", "style"] ["self", "page", "style"] (defScope (mth nSheet 0)) := ⟨rfl, rfl, rfl, by decide +kernel, rfl, by decide +kernel, by decide +kernel⟩
theorem ok_shinit {f g1 g2 : Addr} {fd fd1 fd2 : FuncData} (T : Txt mg) (X : ShC K S) (F : Fun K "__init__" "Sheet.__init__" (mth nSheet 0) f fd)
    (G1 : FnOk P w K mg base CX0 11 g1 fd1 ["page"] (spCheck K cs)) (k1 : PySem.W.keepIn K (.ref g1) = true) (b1 : Binds K fd1 ["page"] []) (m1 : mg "check_page" = some (.ref g1))
    (G2 : FnOk P w K mg base CX0 2 g2 fd2 ["style"] (spStyle K)) (k2 : PySem.W.keepIn K (.ref g2) = true) (b2 : Binds K fd2 ["style"] []) (m2 : mg "check_style" = some (.ref g2)) : FnOk P w K mg base CX0 12 f fd ["self", "page", "style"] (spShInit K cs S) := by
  refine F.ok sc_shinit (fun vs H Q E h => ?_) (fun cdv A outer s H vs Q E hr h => ?_)
  · obtain ⟨sh, a, st, dx, as, rows, gap, least, rfl, _⟩ := h
    rfl
  · obtain ⟨sh, a, st, dx, as, rows, gap, least, rfl, hT, hsh, hP, hO, hS, k⟩ := h
    have r2 : Room 2 _ := hr.mono (by decide)
    refine ⟨_, pss_cons (ps_expr (pe_call G1 hr (by rfl) m1 k1 b1 .nil pass0 (pa_cons (pv 1) pa_nil)))
      (pss_cons (ps_expr (pe_call G2 r2 (by rfl) m2 k2 b2 .nil pass0 (pa_cons (pv 2) pa_nil)))
      (pss_cons (ps_fld (pv 0) (pe_callTy call_list_of (by rfl) T.list (by decide +kernel) (pa_cons (pv 1) pa_nil)) rfl)
      (pss_cons (ps_fld (pv 0) (pv 2) rfl) (pss_one (ps_fld (pv 0) (pe_lst pa_nil) rfl))))), ?_⟩
    refine ⟨_, rfl, a, as, rows, rfl, hT, hP, hO, fun H1 x1 => ⟨_, rfl, st, gap, least, rfl, hS.gwN x1.ext, ?_⟩⟩
    have hsh1 : H1 sh = some (.ins S dx []) := x1.ext _ _ hsh fun ps z => by cases z
    refine ⟨_, rfl, a, _, rfl, .inl (hP.ex x1).lst, fun rl nrl => ?_⟩
    have x2 := x1.trans (Ex.laid (o := .lst (as.map V.ref)) x1.tab nrl)
    have hsh2 : upd H1 rl (.lst (as.map V.ref)) sh = some (.ins S dx []) := by rw [upd_ne (ne_of_none hsh1 nrl)]; exact hsh1
    have hrl2 : upd H1 rl (.lst (as.map V.ref)) rl = some (.lst (as.map V.ref)) := upd_same
    generalize upd H1 rl (.lst (as.map V.ref)) = H2 at x2 hsh2 hrl2 ⊢
    refine ⟨_, rfl, sh, S, dx, _, rfl, hsh2, X.cS, X.nRows, by decide, ?_⟩
    refine ⟨_, rfl, _, rfl, sh, S, dx, _, rfl, upd_same, X.cS, X.nStyle, by show 1 < 1000; decide, ?_⟩
    rw [upd_upd]
    refine ⟨small0, fun dl ndl => ⟨_, rfl, sh, S, dx, _, rfl, by rw [upd_ne (ne_of_none upd_same ndl)]; exact upd_same, X.cS, X.nDeeds, by show 2 < 1000; decide, ?_⟩⟩
    have nshd : sh ≠ dl := ne_of_none upd_same ndl
    have nd2 : H2 dl = none := by rw [upd_ne nshd.symm] at ndl; exact ndl
    have keep : ∀ b o, H2 b = some o → b ≠ sh → upd (upd (upd H2 sh (.ins S dx (putF "style" (.ref st) (putF "rows" (.ref rl) [])))) dl (.lst [])) sh (.ins S dx (putF "deeds" (.ref dl) (putF "style" (.ref st) (putF "rows" (.ref rl) [])))) b = some o := fun b o h n => by
      rw [upd_ne n, upd_ne (ne_of_none h nd2), upd_ne n]
      exact h
    have nsr : rl ≠ sh := fun z => by rw [z, hsh2] at hrl2; cases hrl2
    have sqk : ∀ {t : Addr} {xs : List V}, SqT K H t xs → SqT K (upd (upd (upd H2 sh (.ins S dx (putF "style" (.ref st) (putF "rows" (.ref rl) [])))) dl (.lst [])) sh (.ins S dx (putF "deeds" (.ref dl) (putF "style" (.ref st) (putF "rows" (.ref rl) []))))) t xs := fun {t xs} h => by
      rcases x2.sqT h with (h3 | ⟨u, h3⟩) | h3
      · exact .inl (.inl (keep _ _ h3 fun z => by rw [z, hsh2] at h3; cases h3))
      · exact .inl (.inr ⟨u, keep _ _ h3 fun z => by rw [z, hsh2] at h3; cases h3⟩)
      · exact .inr h3
    refine k rl dl _ (fun b o h n m => keep b o (xn_ex x2 b o h n) m) ?_ (fun b hb => ?_) ⟨⟨dx, upd_same⟩, keep _ _ hrl2 nsr, by rw [upd_ne nshd.symm, upd_same]; rfl, ne_of_none hrl2 nd2, ⟨hP.len, fun i q r h1 h2 => sqk (hP.row i q r h1 h2)⟩, hO, ⟨sqk hS.tup, hS.g0, hS.g1, hS.l0, hS.l1⟩, by unfold PastAt; trivial, fun y hy => hy.elim⟩ (x1.old rl nrl) (x2.old dl nd2)
    · intro p hp
      obtain ⟨ps, h1, h2⟩ := x2.tab p hp
      exact ⟨ps, keep _ _ h1 (fun z => by rw [z, hsh2] at h1; cases h1), h2⟩
    · refine x2.old b ?_
      cases e : H2 b with
      | none => rfl
      | some u =>
        by_cases z : b = sh
        · rw [z, upd_same] at hb; cases hb
        · rw [keep b u e z] at hb; cases hb
end
end TGK

namespace TGK
open TG
open PySem PySem.Spec PyProof.Rows L2 Gx EnT
/-! ### Sheet.lay -/
abbrev rLenK (K : PySem.W.Frag) : List V → Hp → VK → Prop := fun xs H Q => ∃ (p : Addr) (ys : List V), xs = [V.ref p] ∧ (SqL K H p ys ∨ SqT K H p ys) ∧ Q (V.int (ys.length : Nat)) H
/-- rows that stay, by their numbers ahead and behind -/
def stayR (len n m q : Nat) : List (Nat × Nat) := (List.range n).map (fun i => (i, i)) ++ (List.range (len - (n + m))).map fun j => (n + m + j, n + q + j)
/-- what a deed tells -/
def laidR (rows new : List (List Str)) (gap least : Int) (n m : Nat) : List (List V) := movL (begsR rows gap least) (begsR (splice rows n m new) gap least) (stayR rows.length n m new.length)
theorem splice_ahead {α : Type} {xs new : List α} {n m i : Nat} (h : n + m ≤ xs.length) (hi : i < n) : (splice xs n m new)[i]? = xs[i]? := by
  unfold splice
  rw [List.append_assoc, List.getElem?_append_left (by rw [List.length_take]; omega), List.getElem?_take, if_pos hi]
theorem splice_behind {α : Type} {xs new : List α} {n m j : Nat} (h : n + m ≤ xs.length) : (splice xs n m new)[n + new.length + j]? = xs[n + m + j]? := by
  unfold splice
  rw [List.getElem?_append_right (by rw [List.length_append, List.length_take]; omega), List.length_append, List.length_take, List.getElem?_drop]
  congr 1
  omega
theorem begsR_ncl (rows : List (List Str)) (gap least : Int) (i : Nat) : (begsR rows gap least i).length = ncl rows i + 1 := begs_len ..
theorem ncl_eq {rows rows' : List (List Str)} {i i' : Nat} (h : rows[i]? = rows'[i']?) : ncl rows i = ncl rows' i' := by unfold ncl; rw [h]
theorem stay_ok {rows new : List (List Str)} {gap least : Int} {n m : Nat} (h : n + m ≤ rows.length) (hO : PgOk rows) : ∀ p ∈ stayR rows.length n m new.length, p.1 < rows.length ∧ p.2 < (splice rows n m new).length ∧ (begsR rows gap least p.1).length = (begsR (splice rows n m new) gap least p.2).length ∧ (begsR rows gap least p.1).length ≤ 6 := by
  intro p hp
  have sl := splice_len (new := new) h
  have key : ∀ i i', i < rows.length → rows[i]? = (splice rows n m new)[i']? → (begsR rows gap least i).length = (begsR (splice rows n m new) gap least i').length ∧ (begsR rows gap least i).length ≤ 6 := fun i i' hi e => by
    refine ⟨by rw [begsR_ncl, begsR_ncl, ncl_eq e], ?_⟩
    rw [begsR_ncl]
    unfold ncl
    rw [List.getElem?_eq_getElem hi]
    have := (hO.rows _ (List.getElem_mem hi)).len
    have := (hO.rows _ (List.getElem_mem hi)).pos
    show rows[i].length - 1 + 1 ≤ 6
    omega
  unfold stayR at hp
  rcases List.mem_append.mp hp with q | q
  · obtain ⟨i, hi, rfl⟩ := List.mem_map.mp q
    rw [List.mem_range] at hi
    exact ⟨by omega, by omega, key i i (by omega) (splice_ahead h hi).symm⟩
  · obtain ⟨j, hj, rfl⟩ := List.mem_map.mp q
    rw [List.mem_range] at hj
    exact ⟨by show n + m + j < _; omega, by show n + new.length + j < _; omega, key _ _ (by omega) (splice_behind h).symm⟩
theorem stay_len (len n m q : Nat) (h : n + m ≤ len) : (stayR len n m q).length ≤ len := by
  unfold stayR
  rw [List.length_append, List.length_map, List.length_map, List.length_range, List.length_range]
  omega
/-- a list of lists of values, told anew -/
structure NewL (H0 H : Hp) (D : Addr) (l : List (List V)) : Prop where
  nD : H0 D = none
  ts : ∃ ts : List Addr, H D = some (.lst (ts.map V.ref)) ∧ ts.length = l.length ∧ ∀ (j : Nat) (t : Addr) (v : List V), ts[j]? = some t → l[j]? = some v → H t = some (.tup v)
theorem TupL.pairs {H0 H : Hp} {D : Addr} {l : List (Nat × Nat)} (o : TupL H0 D (l.map v2) H) : PairL H D l := by
  obtain ⟨ts, h1, h2, h3⟩ := o.ts
  exact ⟨ts, h1, by rw [h2, List.length_map], fun j t p e1 e2 => h3 j t (v2 p) e1 (by rw [List.getElem?_map, e2]; rfl)⟩
theorem TupL.ext2 {H0 H1 H2 : Hp} {D D2 : Addr} {l l2 : List (List V)} (o : TupL H0 D l H1) (o2 : TupL H1 D2 l2 H2) : ∃ xs zs, H2 D = some (.lst xs) ∧ H2 D2 = some (.lst zs) ∧ xs.length = l.length ∧ zs.length = l2.length ∧ TupL H0 D (l ++ l2) (upd H2 D (.lst (xs ++ zs))) := by
  obtain ⟨ts, h1, h2, h3⟩ := (o.grow o2.sm).ts
  obtain ⟨us, g1, g2, g3⟩ := o2.ts
  have tD : ∀ {t : Addr} {v : List V}, H2 t = some (.tup v) → t ≠ D := fun {t v} h z => by rw [z, h1] at h; cases h
  refine ⟨_, _, h1, g1, by rw [List.length_map, h2], by rw [List.length_map, g2], fun b u e => ?_, o.nD, ts ++ us, by rw [upd_same]; simp, by rw [List.length_append, List.length_append, h2, g2], fun j t v e1 e2 => ?_⟩
  · rw [upd_ne (ne_of_none e o.nD)]
    exact o2.sm b u (o.sm b u e)
  · by_cases hj : j < ts.length
    · rw [List.getElem?_append_left hj] at e1
      rw [List.getElem?_append_left (by rw [← h2]; exact hj)] at e2
      have := h3 j t v e1 e2
      rw [upd_ne (tD this)]
      exact this
    · rw [List.getElem?_append_right (by omega)] at e1
      rw [List.getElem?_append_right (by rw [← h2]; omega), ← h2] at e2
      have := g3 _ t v e1 e2
      rw [upd_ne (tD this)]
      exact this
theorem tabs_lst {cs : List (Addr × Addr)} {H : Hp} {a : Addr} {us : List V} {o : HO} (t : Tabs cs H) (h : H a = some (.lst us)) : Tabs cs (upd H a o) := fun p hp => by
  obtain ⟨ps, h1, h2⟩ := t p hp
  exact ⟨ps, by rw [upd_ne fun z => by rw [z, h] at h1; cases h1]; exact h1, h2⟩
section
variable {P : Program} {w : World} {K : PySem.W.Frag} {mg : Str → Option Value} {base : Heap} {cs : List (Addr × Addr)} {S R C G : Addr}
/-- what comes of a deed that can be done: the sheet, and what it tells -/
structure Done (K : PySem.W.Frag) (cs : List (Addr × Addr)) (S : Addr) (H H' : Hp) (sh rl dl st : Addr) (rows : List (List Str)) (gap least : Int) (ps : List (List (List Str))) (av : Addr → Prop) (D : Addr) (l : List (List V)) : Prop where
  ext : ExtS cs rl dl H H'
  tab : Tabs cs H'
  old : ∀ b, H' b = none → H b = none
  sht : ∃ as ts, ShtD K S H' sh rl dl st as rows gap least ts ps (fun x => av x ∨ x = D)
  told : NewL H H' D l
def spLay (K : PySem.W.Frag) (cs : List (Addr × Addr)) (S R C : Addr) : Sp := fun vs H Q E => ∃ (sh rl dl st nl : Addr) (as nas : List Addr) (rows new : List (List Str)) (gap least : Int) (ts : List Addr) (ps : List (List (List Str))) (av : Addr → Prop) (n m : Nat), vs = [.ref sh, .int (n : Nat), .int (m : Nat), .ref nl] ∧ Tabs cs H ∧
  ShtD K S H sh rl dl st as rows gap least ts ps av ∧ ps.length ≤ 3000 ∧ H nl = some (.lst (nas.map V.ref)) ∧ nl ≠ rl ∧ nl ≠ dl ∧ RowsAt K H nas new ∧ new.length ≤ 2 ∧ (∀ r ∈ new, RowL r 100 100) ∧ n + m ≤ rows.length ∧
  (fitsR ((rows.length : Nat) - (m : Nat) + (new.length : Nat)) new = true → ∀ D H', Done K cs S H H' sh rl dl st (splice rows n m new) gap least (rows :: ps) av D (laidR rows new gap least n m) → Q (.ref D) H') ∧
  (fitsR ((rows.length : Nat) - (m : Nat) + (new.length : Nat)) new = false → ∀ H', Ex cs H H' → E (.ref (clsF R C ((rows.length : Nat) - (m : Nat) + (new.length : Nat)))) none H')
abbrev nmLay : List Str := ["self", "number", "many", "rows", "before", "others", "row"]
theorem sc_lay : FnScope nmLay ["self", "number", "many", "rows"] (defScope (mth nSheet 11)) := ⟨rfl, rfl, rfl, by decide +kernel, rfl, by decide +kernel, by decide +kernel⟩
theorem fits_ok {rows new : List (List Str)} {n m : Nat} (hO : PgOk rows) (h : n + m ≤ rows.length) (hL : ∀ r ∈ new, RowL r 100 100) (f : fitsR ((rows.length : Nat) - (m : Nat) + (new.length : Nat)) new = true) : PgOk (splice rows n m new) := by
  unfold fitsR at f
  rw [Bool.and_eq_true, decide_eq_true_iff, List.all_eq_true] at f
  obtain ⟨⟨f1, f2⟩, f3⟩ := f
  have sl := splice_len (new := new) h
  refine ⟨by omega, by omega, fun r hr => ?_⟩
  unfold splice at hr
  rcases List.mem_append.mp hr with q | q
  · rcases List.mem_append.mp q with q | q
    · exact hO.rows r (List.mem_of_mem_take q)
    · exact (hL r q).fit.mp (f3 r q)
  · exact hO.rows r (List.mem_of_mem_drop q)
theorem ok_lay {f g1 g2 g3 : Addr} {fd fd1 fd2 fd3 : FuncData} (T : Txt mg) (X : ShC K S) (F : Fun K "lay" "Sheet.lay" (mth nSheet 11) f fd)
    (G1 : FnOk P w K mg base (L2.CX P w) 11 g1 fd1 ["many", "rows"] (spFits K cs R C)) (k1 : PySem.W.keepIn K (.ref g1) = true) (b1 : Binds K fd1 ["many", "rows"] []) (m1 : mg "check_fits" = some (.ref g1))
    (M2 : Meth K S "begins" g2) (G2 : FnOk P w K mg base CX0 15 g2 fd2 ["self"] (spShBegins K cs S)) (b2 : Binds K fd2 ["self"] [])
    (G3 : FnOk P w K mg base CX0 1 g3 fd3 ["before", "after", "others"] spMov) (k3 : PySem.W.keepIn K (.ref g3) = true) (b3 : Binds K fd3 ["before", "after", "others"] []) (m3 : mg "moved" = some (.ref g3)) :
    FnOk P w K mg base (L2.CX P w) 16 f fd ["self", "number", "many", "rows"] (spLay K cs S R C) := by
  refine F.okX sc_lay (fun vs H Q E h => ?_) (fun cdv A outer s H vs Q E hr h => ?_)
  · obtain ⟨sh, rl, dl, st, nl, as, nas, rows, new, gap, least, ts, ps, av, n, m, rfl, _⟩ := h
    rfl
  · obtain ⟨sh, rl, dl, st, nl, as, nas, rows, new, gap, least, ts, ps, av, n, m, rfl, hT, hS, hps, hN, nr, ndl, hA, h2, hL, hnm, kq, ke⟩ := h
    have nd := sc_lay.nd
    have r10 : Room 11 _ := hr.mono (by decide)
    have r14 : Room 15 _ := hr
    have r1 : Room 1 _ := hr.mono (by decide)
    refine ⟨_, pss_cons (ps_expr (pe_callS G1 r10 (by rfl) m1 k1 b1 (fun σ => passAt (takes_of rfl rfl rfl rfl) σ) (pa_cons (pe_op op_add (pe_op op_sub (pe_callB call_len_seq (by rfl) T.len PySem.boot_len (pa_cons (pe_fld (pv 0) rfl) pa_nil)) (pv 2)) (pe_callB call_len_seq (by rfl) T.len PySem.boot_len (pa_cons (pv 3) pa_nil))) (pa_cons (pv 3) pa_nil))))
      (pss_cons (ps_set (i := 4) nd rfl (.inl rfl) (pe_meth0 (pv 0) X.cS M2 G2 r14 b2 .nil pass0))
      (pss_cons (ps_expr (pe_bm PySem.F.plainAttrs_list PySem.F.slot_list_append PySem.F.type_list_append mt_append (pe_fld (pv 0) rfl) (pa_cons (pe_tup (pa_cons (pv 1) (pa_cons (pe_callB call_len_seq (by rfl) T.len PySem.boot_len (pa_cons (pv 3) pa_nil)) (pa_cons (pe_slice sl_list (pe_fld (pv 0) rfl) (po_some (pv 1)) (po_some (pe_op op_add (pv 1) (pv 2)))) pa_nil)))) pa_nil)))
      (pss_cons (ps_asg (pv 3) (pg_slice (pe_fld (pv 0) rfl) (pv 1) (pe_op op_add (pv 1) (pv 2))))
      (pss_cons (ps_setLc (i := 5) (own := [("row", 6)]) (g := gName 6) (tt := tYes) rfl nd rfl rfl (sw_true rfl rfl rfl (by decide +kernel)) (pi_range1 (by rfl) T.range (pa_cons (pv 1) pa_nil)) (blkOk_by (own := [("row", 6)]) (N := nmLay) (sc := defScope (mth nSheet 11)) (by decide +kernel)) (fun _ _ _ _ _ => pg_name (i := 6) nd rfl (Or.inl rfl)) (fun _ _ _ _ _ => pts_nil) (fun _ _ _ _ _ => pe_tup (pa_cons (pv 6) (pa_cons (pv 6) pa_nil))))
      (pss_cons (ps_aug (i := 5) nd rfl (.inl rfl) (pe_lc (own := [("row", 6)]) (g := gName 6) (tt := tYes) rfl nd (pi_range2 (by rfl) T.range (pa_cons (pe_op op_add (pv 1) (pv 2)) (pa_cons (pe_callB call_len_seq (by rfl) T.len PySem.boot_len (pa_cons (pv 4) pa_nil)) pa_nil))) (blkOk_by (own := [("row", 6)]) (N := nmLay) (sc := defScope (mth nSheet 11)) (by decide +kernel)) (fun _ _ _ _ _ => pg_name (i := 6) nd rfl (Or.inl rfl)) (fun _ _ _ _ _ => pts_nil) (fun _ _ _ _ _ => pe_tup (pa_cons (pv 6) (pa_cons (pe_op op_add (pe_op op_sub (pv 6) (pv 2)) (pe_callB (r := rLenK K) call_len_seq (by rfl) T.len PySem.boot_len (pa_cons (pv 3) pa_nil))) pa_nil)))) iop_ext)
      (pss_one (ps_ret (pe_call G3 r1 (by rfl) m3 k3 b3 .nil pass0 (pa_cons (pv 4) (pa_cons (pe_meth0 (pv 0) X.cS M2 G2 r14 b2 .nil pass0) (pa_cons (pv 5) pa_nil))))))))))), ?_⟩
    obtain ⟨dx, h1⟩ := hS.she
    have la : (as.map V.ref).length = rows.length := by rw [List.length_map, hS.at_.len]
    have ln : (nas.map V.ref).length = new.length := by rw [List.length_map, hA.len]
    have h30 := hS.ok.len
    have szl : (1000 : Nat) < sizeLine := by decide
    refine ⟨_, rfl, sh, S, dx, _, _, rfl, h1, X.cS, X.nRows, rfl, rl, _, rfl, .inl hS.page.lst, _, rfl, _, _, rfl, rfl, _, rfl, nl, _, rfl, .inl (SqL.of hN), _, _, rfl, rfl, _, rfl, ?_⟩
    rw [la, ln]
    refine ⟨_, nl, nas, new, rfl, hT, hN, hA, hL, fun ff H1 x1 => ?_, fun ff H1 x1 => ke ff H1 x1⟩
    have hS1 := hS.gw x1.ext
    have hN1 := x1.lst hN
    obtain ⟨dx1, h11⟩ := hS1.she
    refine ⟨_, rfl, sh, dx1, _, rfl, h11, rfl, sh, rl, dl, st, as, rows, gap, least, ts, ps, av, rfl, x1.tab, hS1, fun r0 es0 H2 x2 nr0 ne0 tA0 => ?_⟩
    have hS2 := hS1.gw x2.ext
    have hN2 := x2.lst hN1
    have x12 := x1.trans x2
    obtain ⟨dx2, h21⟩ := hS2.she
    refine ⟨_, rfl, sh, S, dx2, _, _, rfl, h21, X.cS, X.nDeeds, rfl, .inl ⟨rfl, _, SqL.of hS2.dl_⟩, _, rfl, _, rfl, nl, _, rfl, .inl (SqL.of hN2), _, rfl, sh, S, dx2, _, _, rfl, h21, X.cS, X.nRows, rfl, _, rfl, _, rfl, _, rfl, _, rfl, _, _, rfl, rfl, _, rfl, rl, _, rfl, SqL.of hS2.rl_, fun l nl0 => ⟨by show 3 ≤ sizeLine; decide, fun t nt => ?_⟩⟩
    have las : as.length = rows.length := hS.at_.len
    have lns : nas.length = new.length := hA.len
    have eL : cutV (as.map V.ref) (some ((n : Nat) : Int)) (some (((n : Nat) : Int) + ((m : Nat) : Int))) = ((as.drop n).take m).map V.ref := by
      rw [cutV_map, show ((n : Nat) : Int) + ((m : Nat) : Int) = ((n + m : Nat) : Int) by omega, cutL_mid (by omega) (by omega), show n + m - n = m by omega]
    rw [eL] at nt ⊢
    have y4 : Same H2 (upd (upd H2 l (.lst (((as.drop n).take m).map V.ref))) t (.tup [.int (n : Nat), .int ((nas.map V.ref).length : Nat), .ref l])) := same_tr (same_new nl0) (same_new nt)
    have hl4 : upd (upd H2 l (.lst (((as.drop n).take m).map V.ref))) t (.tup [.int (n : Nat), .int ((nas.map V.ref).length : Nat), .ref l]) l = some (.lst (((as.drop n).take m).map V.ref)) := by rw [upd_ne (ne_of_none upd_same nt), upd_same]
    have ht4 : upd (upd H2 l (.lst (((as.drop n).take m).map V.ref))) t (.tup [.int (n : Nat), .int ((nas.map V.ref).length : Nat), .ref l]) t = some (.tup [.int (n : Nat), .int ((nas.map V.ref).length : Nat), .ref l]) := upd_same
    generalize upd (upd H2 l (.lst (((as.drop n).take m).map V.ref))) t (.tup [.int (n : Nat), .int ((nas.map V.ref).length : Nat), .ref l]) = H4 at y4 hl4 ht4 ⊢
    rw [List.length_map] at ht4
    have hS4 := hS2.gw (same_ext y4)
    have lts : ts.length ≤ 3000 := by rw [hS.past.len]; exact hps
    have nlr : l ≠ rl := fun z => by rw [z, hS2.rl_] at nl0; cases nl0
    have nld : l ≠ dl := fun z => by rw [z, hS2.dl_] at nl0; cases nl0
    refine ⟨dl, _, _, rfl, rfl, hS4.dl_, by rw [List.length_map, List.length_reverse]; exact Nat.lt_of_le_of_lt lts (by decide : (3000 : Nat) < sizeLine), ?_⟩
    obtain ⟨nsr, nsd⟩ := hS4.ns
    have hN4 := y4 _ _ hN2
    obtain ⟨dx4, h41⟩ := hS4.she
    refine ⟨_, rfl, _, rfl, sh, S, dx4, _, _, rfl, by rw [upd_ne nsd]; exact h41, X.cS, X.nRows, rfl, _, rfl, _, rfl, _, rfl, _, rfl, _, rfl, _, _, rfl, rfl, _, rfl, _, rfl, rl, nl, _, _, rfl, rfl, by rw [upd_ne hS4.ne]; exact hS4.rl_, by rw [upd_ne ndl]; exact hN4, nr.symm, by omega, by omega, by rw [la]; omega, by rw [la, ln]; omega, ?_⟩
    have eM : (as.map V.ref).take (((n : Nat) : Int)).toNat ++ nas.map V.ref ++ (as.map V.ref).drop ((((n : Nat) : Int) + ((m : Nat) : Int))).toNat = (splice as n m nas).map V.ref := by
      rw [show ((((n : Nat) : Int) + ((m : Nat) : Int))).toNat = n + m by omega, show (((n : Nat) : Int)).toNat = n by omega]
      unfold splice
      rw [List.map_append, List.map_append, List.map_take, List.map_drop]
    rw [eM]
    have x46 : ExtS cs rl dl H4 (upd (upd H4 dl (.lst (ts.reverse.map V.ref ++ [.ref t]))) rl (.lst ((splice as n m nas).map V.ref))) := fun b o h _ q1 q2 => by rw [upd_ne q1, upd_ne q2]; exact h
    have t4 : Tabs cs H4 := tabs_ext x12.tab y4
    have t6 : Tabs cs (upd (upd H4 dl (.lst (ts.reverse.map V.ref ++ [.ref t]))) rl (.lst ((splice as n m nas).map V.ref))) := tabs_lst (tabs_lst t4 hS4.dl_) (by rw [upd_ne hS4.ne]; exact hS4.rl_)
    have hpos := fits_ok hS.ok hnm hL ff
    have lsp : (splice as n m nas).length = as.length - m + nas.length := splice_len (by omega)
    have bk : splice (splice as n m nas) n nas.length ((as.drop n).take m) = as := splice_back (by omega)
    have hS6 : ShtD K S (upd (upd H4 dl (.lst (ts.reverse.map V.ref ++ [.ref t]))) rl (.lst ((splice as n m nas).map V.ref))) sh rl dl st (splice as n m nas) (splice rows n m new) gap least (t :: ts) (rows :: ps) av := by
      refine ⟨⟨dx4, by rw [upd_ne nsr, upd_ne nsd]; exact h41⟩, upd_same, by rw [upd_ne hS4.ne.symm, upd_same, List.reverse_cons, List.map_append]; rfl, hS4.ne, ?_, hpos, hS4.style.exs x46 hS4.rl_ hS4.dl_, ?_, hS4.live2 x46 upd_same (by rw [upd_ne hS4.ne.symm]; exact upd_same)⟩
      · exact (hS4.at_.exs x46 hS4.rl_ hS4.dl_).splice (((hA.gw x12.ext).gw (same_ext y4)).exs x46 hS4.rl_ hS4.dl_)
      · unfold PastAt
        refine ⟨n, nas.length, (as.drop n).take m, l, tup_exs x46 hS4.rl_ hS4.dl_ ht4, x46 _ _ hl4 (.inl fun ps z => by cases z) nlr nld, nlr, nld, (fun q => by obtain ⟨u, e, _⟩ := hS2.live l q; rw [nl0] at e; cases e), by omega, by rw [List.length_take, List.length_drop]; omega, ?_, hS.ok, ?_⟩
        · rw [bk]
          exact hS4.at_.exs x46 hS4.rl_ hS4.dl_
        · rw [bk]
          exact hS4.past.exs x46 hS4.rl_ hS4.dl_
    have old6 : ∀ b, upd (upd H4 dl (.lst (ts.reverse.map V.ref ++ [.ref t]))) rl (.lst ((splice as n m nas).map V.ref)) b = none → H b = none := fun b hb => by
      refine x12.old b (same_old y4 ?_)
      by_cases q1 : b = rl
      · rw [q1, upd_same] at hb; cases hb
      · rw [upd_ne q1] at hb
        by_cases q2 : b = dl
        · rw [q2, upd_same] at hb; cases hb
        · rw [upd_ne q2] at hb; exact hb
    have x06 : ExtS cs rl dl H (upd (upd H4 dl (.lst (ts.reverse.map V.ref ++ [.ref t]))) rl (.lst ((splice as n m nas).map V.ref))) := ExtS.after (xn_tr (xn_ex x12) (same_xn y4)) x46
    have nr0' : H r0 = none := x1.old _ nr0
    have tA6 : ToldAt (upd (upd H4 dl (.lst (ts.reverse.map V.ref ++ [.ref t]))) rl (.lst ((splice as n m nas).map V.ref))) r0 es0 (begsR rows gap least) rows.length := by
      have tA4 := tA0.ext (same_ext y4)
      have q1 : r0 ≠ rl := fun z => by rw [z, hS1.rl_] at nr0; cases nr0
      have q2 : r0 ≠ dl := fun z => by rw [z, hS1.dl_] at nr0; cases nr0
      refine ⟨by rw [upd_ne q1, upd_ne q2]; exact tA4.lst, tA4.len, tA4.nd, fun i e he => ?_⟩
      have ne1 := (ne0 e (List.mem_of_getElem? he)).1
      have q3 : e ≠ rl := fun z => by rw [z, hS1.rl_] at ne1; cases ne1
      have q4 : e ≠ dl := fun z => by rw [z, hS1.dl_] at ne1; cases ne1
      rw [upd_ne q3, upd_ne q4]
      exact tA4.at_ i e he
    have hN6 : upd (upd H4 dl (.lst (ts.reverse.map V.ref ++ [.ref t]))) rl (.lst ((splice as n m nas).map V.ref)) nl = some (.lst (nas.map V.ref)) := by rw [upd_ne nr, upd_ne ndl]; exact hN4
    generalize upd (upd H4 dl (.lst (ts.reverse.map V.ref ++ [.ref t]))) rl (.lst ((splice as n m nas).map V.ref)) = H6 at t6 hS6 old6 x06 tA6 hN6 ⊢
    clear x46
    refine ⟨_, rfl, _, rfl, by omega, by omega, fun D1 nD1 => ?_⟩
    refine lc_range (n := (((n : Nat) : Int)).toNat) (fun j H' => TupL H6 D1 (((List.range j).map fun i => (i, i)).map v2) H') (TupL.start nD1) ?_ ?_
    · rintro j H7 hj o3
      refine ⟨rfl, _, rfl, _, rfl, by show 2 ≤ sizeLine; decide, fun t7 nt7 => ?_⟩
      have o4 := o3.grow (same_new (o := .tup [.int (0 + (j : Nat)), .int (0 + (j : Nat))]) nt7)
      obtain ⟨acc, w1, w2, w3⟩ := o4.more (t := t7) (v := [.int (0 + (j : Nat)), .int (0 + (j : Nat))]) upd_same
      refine ⟨acc, w1, by rw [w2, List.length_map, List.length_map, List.length_range]; omega, ?_⟩
      rw [List.range_succ, List.map_append, List.map_append]
      have e0 : ∀ n : Nat, (0 + ((n : Nat) : Int)) = ((n : Nat) : Int) := fun n => Int.zero_add _
      simp only [e0] at w3 ⊢
      exact w3
    intro H7 o7
    rw [show (((n : Nat) : Int)).toNat = n by omega] at o7
    have tA7 := tA6.ext (same_ext o7.sm)
    have le0 : (es0.map V.ref).length = rows.length := by rw [List.length_map, tA7.len]
    refine ⟨_, rfl, _, rfl, _, rfl, _, _, rfl, rfl, _, rfl, r0, _, rfl, .inl (SqL.of tA7.lst), _, _, rfl, ⟨by omega, by omega, by omega, by omega⟩, fun D2 nD2 => ?_⟩
    rw [le0, show (((rows.length : Nat) : Int) - (((n : Nat) : Int) + ((m : Nat) : Int))).toNat = rows.length - (n + m) by omega]
    have hN7 := o7.sm _ _ hN6
    refine lc_range (n := rows.length - (n + m)) (fun j H' => TupL H7 D2 (((List.range j).map fun j => (n + m + j, n + new.length + j)).map v2) H') (TupL.start nD2) ?_ ?_
    · rintro j H8 hj o3
      refine ⟨rfl, _, rfl, _, rfl, _, rfl, _, _, rfl, rfl, _, rfl, nl, _, rfl, .inl (SqL.of (o3.sm _ _ hN7)), _, _, rfl, rfl, by show 2 ≤ sizeLine; decide, fun t8 nt8 => ?_⟩
      have e1 : ((n : Nat) : Int) + ((m : Nat) : Int) + ((j : Nat) : Int) = ((n + m + j : Nat) : Int) := by omega
      have e2 : ((n : Nat) : Int) + ((m : Nat) : Int) + ((j : Nat) : Int) - ((m : Nat) : Int) + (((nas.map V.ref).length : Nat) : Int) = ((n + new.length + j : Nat) : Int) := by rw [ln]; omega
      rw [e1] at e2
      dsimp only
      rw [e1, e2]
      have o4 := o3.grow (same_new (o := .tup [.int ((n + m + j : Nat) : Int), .int ((n + new.length + j : Nat) : Int)]) nt8)
      obtain ⟨acc, w1, w2, w3⟩ := o4.more (t := t8) (v := [.int ((n + m + j : Nat) : Int), .int ((n + new.length + j : Nat) : Int)]) upd_same
      refine ⟨acc, w1, by rw [w2, List.length_map, List.length_map, List.length_range]; omega, ?_⟩
      rw [List.range_succ, List.map_append, List.map_append]
      exact w3
    intro H8 o8
    obtain ⟨xs, zs, w1, w2, w3, w4, w5⟩ := o7.ext2 o8
    refine ⟨D1, D2, xs, zs, rfl, rfl, w1, w2, by rw [w3, w4, List.length_map, List.length_map, List.length_range, List.length_map, List.length_map, List.length_range]; omega, ?_⟩
    rw [← List.map_append] at w5
    generalize upd H8 D1 (.lst (xs ++ zs)) = H9 at w5 ⊢
    have hS9 := hS6.gw (same_ext w5.sm)
    have t9 : Tabs cs H9 := tabs_ext t6 w5.sm
    obtain ⟨dx9, h91⟩ := hS9.she
    refine ⟨_, rfl, _, rfl, sh, dx9, _, rfl, h91, rfl, sh, rl, dl, st, splice as n m nas, splice rows n m new, gap, least, t :: ts, rows :: ps, av, rfl, t9, hS9, fun r1' es1 H10 x10 nr1 ne1 tA1 => ⟨_, rfl, ?_⟩⟩
    have pl : PairL H10 D1 (stayR rows.length n m new.length) := by
      obtain ⟨us, p1, p2, p3⟩ := w5.pairs.ts
      exact ⟨us, x10.lst p1, p2, fun j t p e1 e2 => x10.tup (p3 j t p e1 e2)⟩
    refine ⟨r0, r1', D1, es0, es1, _, _, _, _, _, rfl, (tA6.ext (same_ext w5.sm)).ext x10.ext, tA1, pl, stay_ok hnm hS.ok, by have := stay_len rows.length n m new.length hnm; omega, fun D H11 o11 => ?_⟩
    refine kq ff D H11 ⟨?_, ?_, ?_, ?_, ?_⟩
    · exact ((x06.gw (same_xn w5.sm)).gw (xn_ex x10)).gw (same_xn o11.sm)
    · exact tabs_ext x10.tab o11.sm
    · exact fun b hb => old6 b (same_old w5.sm (x10.old b (same_old o11.sm hb)))
    · obtain ⟨us, hus, _⟩ := o11.ts
      exact ⟨_, _, (hS9.gw x10.ext).new o11.nD (same_ext o11.sm) hus⟩
    · exact ⟨old6 _ (same_old w5.sm (x10.old _ o11.nD)), o11.ts⟩
end
end TGK

namespace TGK
open TG
open PySem PySem.Spec PyProof.Rows L2 Gx EnT
/-! ### methods that may raise -/
def tMethS (C : Addr) (m : Str) (sp : Sp) (E : L2.St → XK) (ta : TE) (t : L2.TA) : TE := fun σ H Q => ta σ H fun x H1 => ∃ a dx fs, x = .ref a ∧ H1 a = some (.ins C dx fs) ∧ fs.lookup m = none ∧ t σ H1 fun vs H2 => sp (.ref a :: vs) H2 Q (E σ)
section
variable {X : Cx} {CX : CXT} {k : Nat} {f C : Addr} {fd : FuncData} {ps : List Str} {sp : Sp} {E : L2.St → XK} {x m : Str} {p pos apos : Pos} {e o : Expr} {es : List Expr} {ta : TE} {t : L2.TA}
theorem pe_methS {pl : Sem Bool} (he : PE X o ta) (c : Cls X.K C) (hm : Meth X.K C m f) (F : FnOk X.prog X.w X.K X.mg X.base CX k f fd ps sp) (hr : Room k X.A) (hb : Binds X.K fd ps []) (hx : ∀ σ, PassesAt CX X σ (E σ)) (ha : PA X (e :: es) t)
    (hst : starEach (e :: es) X.env = (false, eval e X.env) :: starEach es X.env := by rfl) (hpl : (backTo pos (starEach es X.env)).any (·.1) = false := by rfl)
    (ht : eval (.Call (.Attribute o m apos) (e :: es) [] pos) X.env = (do
      let ov ← eval o X.env
      standAt apos.atName
      let (f, first) ← holding [ov] (getMethod ov m pl)
      callWith pos f first (backTo pos (starEach (e :: es) X.env)) (backToKw pos (keywordEach [] X.env))) := by rfl) :
    PE X (.Call (.Attribute o m apos) (e :: es) [] pos) (tMethS C m sp E ta t) := by
  refine ⟨fun pins s σ H Q I h => ?_⟩
  refine PySem.W.methodCall_KW (pl := pl) (thn (he.run pins s σ H _ I h) fun u s1 ⟨x, H1, I1, rx, a, dx, fs, ex, ea, l, q⟩ => ?_) ht
  subst ex
  obtain rfl : u = Value.ref a := rx
  refine getmeth_ok I1 ea c hm l ?_
  refine PySem.W.callWith_K (first := [.ref a]) (h₀ := X.base) I.ok.mod.kin hm.kp (thn (ha.run pos pins s1 σ H1 _ I1 q) fun us s2 ⟨vs, H2, I2, r, q2⟩ => ⟨I2.kIn, ?_⟩) hst hpl
  exact run_fnS (us := .ref a :: us) (vs := .ref a :: vs) F hr hb (hx σ) I2 (.cons rfl r) q2
end
/-! ### deeds -/
inductive Deed where
  | put (n : Nat) (r : List Str)
  | take (n : Nat)
  | change (n : Nat) (r : List Str)
  | strike (n c k : Nat) (z : Str)
  | erase (n c k : Nat)
  | part (n c k : Nat)
  | unite (n : Nat)
  | back
abbrev rowN (rows : List (List Str)) (n : Nat) : List Str := rows.getD n []
/-- where a deed lays how many rows anew, and which; none, where it is refused ahead -/
def cutD (rows : List (List Str)) : Deed → Option (Nat × Nat × List (List Str))
  | .put n r => some (n, 0, [r])
  | .take n => some (n, 1, [])
  | .change n r => some (n, 1, [r])
  | .strike n c k z => some (n, 1, [if z = tabS then halvA (rowN rows n) c k ++ halvB (rowN rows n) c k else joinR (joinR (halvA (rowN rows n) c k) [z]) (halvB (rowN rows n) c k)])
  | .erase n c k => (lessR (halvB (rowN rows n) c k)).map fun b => (n, 1, [joinR (halvA (rowN rows n) c k) b])
  | .part n c k => some (n, 1, [halvA (rowN rows n) c k, halvB (rowN rows n) c k])
  | .unite n => if n + 1 < rows.length then some (n, 2, [joinR (rowN rows n) (rowN rows (n + 1))]) else none
  | .back => none
/-- a place of a cell -/
structure PlOk (rows : List (List Str)) (n c k : Nat) : Prop where
  n_ : n < rows.length
  c_ : c < (rowN rows n).length
  k_ : k ≤ ((rowN rows n).getD c nilS).length
def DOk (rows : List (List Str)) : Deed → Prop
  | .put n r => n ≤ rows.length ∧ RowOk r
  | .take n => n < rows.length
  | .change n r => n < rows.length ∧ RowOk r
  | .strike n c k z => PlOk rows n c k ∧ (z = tabS ∨ (Sgs z 1 ∧ z ≠ nilS))
  | .erase n c k => PlOk rows n c k
  | .part n c k => PlOk rows n c k
  | .unite n => n < rows.length
  | .back => True
/-- the page behind a deed, and what it tells; none, where it is refused -/
def goneD (rows : List (List Str)) (gap least : Int) (d : Deed) : Option (List (List Str) × List (List V)) := (cutD rows d).bind fun p =>
  if fitsR ((rows.length : Nat) - (p.2.1 : Nat) + (p.2.2.length : Nat)) p.2.2 = true then some (splice rows p.1 p.2.1 p.2.2, laidR rows p.2.2 gap least p.1 p.2.1) else none
theorem rowN_ok {rows : List (List Str)} {n : Nat} (hO : PgOk rows) (h : n < rows.length) : RowOk (rowN rows n) := by
  unfold rowN
  rw [List.getD_eq_getElem?_getD, List.getElem?_eq_getElem h]
  exact hO.rows _ (List.getElem_mem h)
theorem rowN_get {rows : List (List Str)} {n : Nat} (h : n < rows.length) : rows[n]? = some (rowN rows n) := by
  unfold rowN
  rw [List.getD_eq_getElem?_getD, List.getElem?_eq_getElem h]
  rfl
section
variable {P : Program} {w : World} {K : PySem.W.Frag} {mg : Str → Option Value} {base : Heap} {cs : List (Addr × Addr)} {S R C G : Addr}
/-- which class a refused deed raises -/
def errD (R C : Addr) (rows : List (List Str)) (d : Deed) : Addr := match cutD rows d with
  | some p => clsF R C ((rows.length : Nat) - (p.2.1 : Nat) + (p.2.2.length : Nat))
  | none => match d with
    | .unite _ => R
    | _ => C
theorem errD_or {R C : Addr} {rows : List (List Str)} {d : Deed} : errD R C rows d = R ∨ errD R C rows d = C := by
  unfold errD clsF
  split
  · split
    · exact .inr rfl
    · exact .inl rfl
  · split
    · exact .inl rfl
    · exact .inr rfl
/-- what a caller wants of a deed -/
structure After (K : PySem.W.Frag) (cs : List (Addr × Addr)) (S R C : Addr) (H : Hp) (Q : VK) (E : XK) (sh rl dl st : Addr) (rows : List (List Str)) (gap least : Int) (ps : List (List (List Str))) (av : Addr → Prop) (d : Deed) : Prop where
  yes : ∀ rows' l, goneD rows gap least d = some (rows', l) → ∀ D H', Done K cs S H H' sh rl dl st rows' gap least (rows :: ps) av D l → Q (.ref D) H'
  no : goneD rows gap least d = none → ∀ H', Ex cs H H' → E (.ref (errD R C rows d)) none H'
theorem Done.after {H H1 H' : Hp} {sh rl dl st D : Addr} {rows : List (List Str)} {gap least : Int} {ps : List (List (List Str))} {av : Addr → Prop} {l : List (List V)} (x : Ex cs H H1) (d : Done K cs S H1 H' sh rl dl st rows gap least ps av D l) : Done K cs S H H' sh rl dl st rows gap least ps av D l :=
  ⟨ExtS.after (xn_ex x) d.ext, d.tab, fun b hb => x.old b (d.old b hb), d.sht, ⟨x.old _ d.told.nD, d.told.ts⟩⟩
theorem lay_go {H H1 : Hp} {Q : VK} {E : XK} {sh rl dl st nl : Addr} {as nas : List Addr} {rows new : List (List Str)} {gap least : Int} {ts : List Addr} {ps : List (List (List Str))} {av : Addr → Prop} {d : Deed} {n m : Nat} (a : After K cs S R C H Q E sh rl dl st rows gap least ps av d) (x : Ex cs H H1) (hc : cutD rows d = some (n, m, new))
    (hS : ShtD K S H1 sh rl dl st as rows gap least ts ps av) (hps : ps.length ≤ 3000) (hN : H1 nl = some (.lst (nas.map V.ref))) (nr : nl ≠ rl) (nd : nl ≠ dl) (hA : RowsAt K H1 nas new) (h2 : new.length ≤ 2) (hL : ∀ r ∈ new, RowL r 100 100) (hnm : n + m ≤ rows.length) :
    spLay K cs S R C [.ref sh, .int (n : Nat), .int (m : Nat), .ref nl] H1 Q E := by
  refine ⟨sh, rl, dl, st, nl, as, nas, rows, new, gap, least, ts, ps, av, n, m, rfl, x.tab, hS, hps, hN, nr, nd, hA, h2, hL, hnm, fun f D H' dn => ?_, fun f H' x2 => ?_⟩
  · refine a.yes _ _ ?_ D H' (dn.after x)
    unfold goneD
    rw [hc, Option.bind_some, if_pos f]
  · have ed : errD R C rows d = clsF R C ((rows.length : Nat) - (m : Nat) + (new.length : Nat)) := by unfold errD; rw [hc]
    rw [← ed]
    refine a.no ?_ H' (x.trans x2)
    unfold goneD
    rw [hc, Option.bind_some, if_neg (by rw [f]; exact Bool.false_ne_true)]
theorem no_go {H H1 : Hp} {Q : VK} {E : XK} {sh rl dl st : Addr} {rows : List (List Str)} {gap least : Int} {ps : List (List (List Str))} {av : Addr → Prop} {d : Deed} {c : Addr} (a : After K cs S R C H Q E sh rl dl st rows gap least ps av d) (x : Ex cs H H1) (hc : cutD rows d = none) (h : c = errD R C rows d) : E (.ref c) none H1 := by
  rw [h]
  refine a.no ?_ H1 x
  unfold goneD
  rw [hc]
  rfl
/-- a sheet as it stands, and what is wanted of a deed of it -/
def DeedAt (K : PySem.W.Frag) (cs : List (Addr × Addr)) (S R C : Addr) (H : Hp) (Q : VK) (E : XK) (sh : Addr) (d : Deed) : Prop := ∃ (rl dl st : Addr) (as : List Addr) (rows : List (List Str)) (gap least : Int) (ts : List Addr) (ps : List (List (List Str))) (av : Addr → Prop),
  Tabs cs H ∧ ShtD K S H sh rl dl st as rows gap least ts ps av ∧ ps.length ≤ 3000 ∧ DOk rows d ∧ After K cs S R C H Q E sh rl dl st rows gap least ps av d
def spPut (K : PySem.W.Frag) (cs : List (Addr × Addr)) (S R C : Addr) : Sp := fun vs H Q E => ∃ (sh q : Addr) (n : Nat) (r : List Str), vs = [.ref sh, .int (n : Nat), .ref q] ∧ SqT K H q (sV r) ∧ DeedAt K cs S R C H Q E sh (.put n r)
def spTakeD (K : PySem.W.Frag) (cs : List (Addr × Addr)) (S R C : Addr) : Sp := fun vs H Q E => ∃ (sh : Addr) (n : Nat), vs = [.ref sh, .int (n : Nat)] ∧ DeedAt K cs S R C H Q E sh (.take n)
def spChange (K : PySem.W.Frag) (cs : List (Addr × Addr)) (S R C : Addr) : Sp := fun vs H Q E => ∃ (sh q : Addr) (n : Nat) (r : List Str), vs = [.ref sh, .int (n : Nat), .ref q] ∧ SqT K H q (sV r) ∧ DeedAt K cs S R C H Q E sh (.change n r)
def spStrike (K : PySem.W.Frag) (cs : List (Addr × Addr)) (S R C : Addr) : Sp := fun vs H Q E => ∃ (sh : Addr) (n c k : Nat) (z : Str), vs = [.ref sh, .int (n : Nat), .int (c : Nat), .int (k : Nat), .str z] ∧ DeedAt K cs S R C H Q E sh (.strike n c k z)
def spErase (K : PySem.W.Frag) (cs : List (Addr × Addr)) (S R C : Addr) : Sp := fun vs H Q E => ∃ (sh : Addr) (n c k : Nat), vs = [.ref sh, .int (n : Nat), .int (c : Nat), .int (k : Nat)] ∧ DeedAt K cs S R C H Q E sh (.erase n c k)
def spPart (K : PySem.W.Frag) (cs : List (Addr × Addr)) (S R C : Addr) : Sp := fun vs H Q E => ∃ (sh : Addr) (n c k : Nat), vs = [.ref sh, .int (n : Nat), .int (c : Nat), .int (k : Nat)] ∧ DeedAt K cs S R C H Q E sh (.part n c k)
def spUnite (K : PySem.W.Frag) (cs : List (Addr × Addr)) (S R C : Addr) : Sp := fun vs H Q E => ∃ (sh : Addr) (n : Nat), vs = [.ref sh, .int (n : Nat)] ∧ DeedAt K cs S R C H Q E sh (.unite n)
theorem ShtD.nnew {H : Hp} {sh rl dl st nl : Addr} {as : List Addr} {rows : List (List Str)} {gap least : Int} {ts : List Addr} {ps : List (List (List Str))} {av : Addr → Prop} (h : ShtD K S H sh rl dl st as rows gap least ts ps av) (n : H nl = none) : nl ≠ rl ∧ nl ≠ dl :=
  ⟨(fun z => by rw [z, h.rl_] at n; cases n), (fun z => by rw [z, h.dl_] at n; cases n)⟩
theorem rows1 {H : Hp} {q : Addr} {r : List Str} (h : SqT K H q (sV r)) : RowsAt K H [q] [r] := ⟨rfl, fun i p s e1 e2 => by
  cases i with
  | zero => cases e1; cases e2; exact h
  | succ i => cases e1⟩
theorem rows2 {H : Hp} {q q2 : Addr} {r r2 : List Str} (h : SqT K H q (sV r)) (h2 : SqT K H q2 (sV r2)) : RowsAt K H [q, q2] [r, r2] := ⟨rfl, fun i p s e1 e2 => by
  cases i with
  | zero => cases e1; cases e2; exact h
  | succ i =>
    cases i with
    | zero => cases e1; cases e2; exact h2
    | succ i => cases e1⟩
end
end TGK

namespace TGK
open TG
open PySem PySem.Spec PyProof.Rows L2 Gx EnT
section
variable {P : Program} {w : World} {K : PySem.W.Frag} {mg : Str → Option Value} {base : Heap} {cs : List (Addr × Addr)} {S R C G : Addr}
theorem sc_put : FnScope ["self", "number", "row"] ["self", "number", "row"] (defScope (mth nSheet 1)) := ⟨rfl, rfl, rfl, by decide +kernel, rfl, by decide +kernel, by decide +kernel⟩
theorem sc_tk : FnScope ["self", "number"] ["self", "number"] (defScope (mth nSheet 2)) := ⟨rfl, rfl, rfl, by decide +kernel, rfl, by decide +kernel, by decide +kernel⟩
theorem sc_chg : FnScope ["self", "number", "row"] ["self", "number", "row"] (defScope (mth nSheet 3)) := ⟨rfl, rfl, rfl, by decide +kernel, rfl, by decide +kernel, by decide +kernel⟩
theorem sc_crow : FnScope ["row"] ["row"] (defScope s_check_row) := ⟨rfl, rfl, rfl, by decide +kernel, rfl, by decide +kernel, by decide +kernel⟩
def spCRow (K : PySem.W.Frag) (cs : List (Addr × Addr)) : Sp := fun vs H Q _ => ∃ (a : Addr) (r : List Str), vs = [.ref a] ∧ Tabs cs H ∧ SqT K H a (sV r) ∧ RowOk r ∧ ∀ H', Ex cs H H' → Q .non H'
theorem ok_crow {f g : Addr} {fd fdg : FuncData} (F : Fun K "check_row" "check_row" s_check_row f fd)
    (W : FnOk P w K mg base CX0 9 g fdg ["value"] (spRow K cs)) (kp : PySem.W.keepIn K (.ref g) = true) (bd : Binds K fdg ["value"] []) (mgg : mg "is_row" = some (.ref g)) : FnOk P w K mg base CX0 11 f fd ["row"] (spCRow K cs) := by
  refine F.ok sc_crow (fun vs H Q E h => ?_) (fun cdv A outer s H vs Q E hr h => ?_)
  · obtain ⟨a, r, rfl, _⟩ := h
    rfl
  · obtain ⟨a, r, rfl, hT, hS, hR, k⟩ := h
    refine ⟨_, pss_one (ps_if (pt_not (pt_val (pe_call W (hr.mono (by decide)) (by rfl) mgg kp bd .nil pass0 (pa_cons (pv 0) pa_nil)))) (pss_one ps_never) pss_nil), ?_⟩
    exact ⟨_, rfl, a, r, rfl, hT, hS, hR, fun H' x => ⟨true, rfl, iteF (k H' x)⟩⟩
theorem ok_put {f g1 g2 g3 : Addr} {fd fd1 fd2 fd3 : FuncData} (T : Txt mg) (X : ShC K S) (F : Fun K "put" "Sheet.put" (mth nSheet 1) f fd)
    (G1 : FnOk P w K mg base CX0 2 g1 fd1 ["number", "last"] spNum0) (k1 : PySem.W.keepIn K (.ref g1) = true) (b1 : Binds K fd1 ["number", "last"] []) (m1 : mg "check_number" = some (.ref g1))
    (G2 : FnOk P w K mg base CX0 11 g2 fd2 ["row"] (spCRow K cs)) (k2 : PySem.W.keepIn K (.ref g2) = true) (b2 : Binds K fd2 ["row"] []) (m2 : mg "check_row" = some (.ref g2))
    (M3 : Meth K S "lay" g3) (G3 : FnOk P w K mg base (L2.CX P w) 16 g3 fd3 ["self", "number", "many", "rows"] (spLay K cs S R C)) (b3 : Binds K fd3 ["self", "number", "many", "rows"] []) :
    FnOk P w K mg base (L2.CX P w) 17 f fd ["self", "number", "row"] (spPut K cs S R C) := by
  refine F.okX sc_put (fun vs H Q E h => ?_) (fun cdv A outer s H vs Q E hr h => ?_)
  · obtain ⟨sh, q, n, r, rfl, _⟩ := h
    rfl
  · obtain ⟨sh, q, n, r, rfl, hq, rl, dl, st, as, rows, gap, least, ts, ps, av, hT, hS, hps, ⟨d1, d2⟩, ha⟩ := h
    have r2 : Room 2 _ := hr.mono (by decide)
    have r10 : Room 11 _ := hr.mono (by decide)
    refine ⟨_, pss_cons (ps_expr (pe_call G1 r2 (by rfl) m1 k1 b1 .nil pass0 (pa_cons (pv 1) (pa_cons (pe_callB call_len_seq (by rfl) T.len PySem.boot_len (pa_cons (pe_fld (pv 0) rfl) pa_nil)) pa_nil))))
      (pss_cons (ps_expr (pe_call G2 r10 (by rfl) m2 k2 b2 .nil pass0 (pa_cons (pv 2) pa_nil)))
      (pss_one (ps_ret (pe_methS (pv 0) X.cS M3 G3 hr b3 (fun σ => passAt (takes_of rfl rfl rfl rfl) σ) (pa_cons (pv 1) (pa_cons pe_int (pa_cons (pe_lst (pa_cons (pv 2) pa_nil)) pa_nil))))))), ?_⟩
    obtain ⟨dx, h1⟩ := hS.she
    have la : (as.map V.ref).length = rows.length := by rw [List.length_map, hS.at_.len]
    refine ⟨_, rfl, _, rfl, sh, S, dx, _, _, rfl, h1, X.cS, X.nRows, rfl, rl, _, rfl, .inl hS.page.lst, _, _, rfl, by omega, by rw [la]; omega, ?_⟩
    refine ⟨_, rfl, q, r, rfl, hT, hq, d2, fun H1 x1 => ?_⟩
    have hS1 := hS.gw x1.ext
    obtain ⟨dx1, h11⟩ := hS1.she
    refine ⟨_, rfl, sh, dx1, _, rfl, h11, rfl, _, rfl, _, rfl, by show 1 ≤ sizeLine; decide, fun nl nn => ?_⟩
    have y2 : Same H1 (upd H1 nl (.lst [.ref q])) := same_new nn
    obtain ⟨n1, n2⟩ := hS1.nnew nn
    exact lay_go (nas := [q]) ha (x1.trans (Ex.laid x1.tab nn)) rfl (hS1.gw (same_ext y2)) hps upd_same n1 n2 (rows1 (same_sqT y2 (x1.sqT hq))) (by show 1 ≤ 2; decide) (fun r' hr' => by rw [List.mem_singleton.mp hr']; exact d2.loose.mono (by decide) (by decide)) (by omega)
theorem ok_takeD {f g1 g3 : Addr} {fd fd1 fd3 : FuncData} (T : Txt mg) (X : ShC K S) (F : Fun K "take" "Sheet.take" (mth nSheet 2) f fd)
    (G1 : FnOk P w K mg base CX0 2 g1 fd1 ["number", "last"] spNum0) (k1 : PySem.W.keepIn K (.ref g1) = true) (b1 : Binds K fd1 ["number", "last"] []) (m1 : mg "check_number" = some (.ref g1))
    (M3 : Meth K S "lay" g3) (G3 : FnOk P w K mg base (L2.CX P w) 16 g3 fd3 ["self", "number", "many", "rows"] (spLay K cs S R C)) (b3 : Binds K fd3 ["self", "number", "many", "rows"] []) :
    FnOk P w K mg base (L2.CX P w) 17 f fd ["self", "number"] (spTakeD K cs S R C) := by
  refine F.okX sc_tk (fun vs H Q E h => ?_) (fun cdv A outer s H vs Q E hr h => ?_)
  · obtain ⟨sh, n, rfl, _⟩ := h
    rfl
  · obtain ⟨sh, n, rfl, rl, dl, st, as, rows, gap, least, ts, ps, av, hT, hS, hps, d1, ha⟩ := h
    have d1 : n < rows.length := d1
    have r2 : Room 2 _ := hr.mono (by decide)
    refine ⟨_, pss_cons (ps_expr (pe_call G1 r2 (by rfl) m1 k1 b1 .nil pass0 (pa_cons (pv 1) (pa_cons (pe_op op_sub (pe_callB call_len_seq (by rfl) T.len PySem.boot_len (pa_cons (pe_fld (pv 0) rfl) pa_nil)) pe_int) pa_nil))))
      (pss_one (ps_ret (pe_methS (pv 0) X.cS M3 G3 hr b3 (fun σ => passAt (takes_of rfl rfl rfl rfl) σ) (pa_cons (pv 1) (pa_cons pe_int (pa_cons (pe_lst pa_nil) pa_nil)))))), ?_⟩
    obtain ⟨dx, h1⟩ := hS.she
    have la : (as.map V.ref).length = rows.length := by rw [List.length_map, hS.at_.len]
    refine ⟨_, rfl, _, rfl, sh, S, dx, _, _, rfl, h1, X.cS, X.nRows, rfl, rl, _, rfl, .inl hS.page.lst, _, _, rfl, rfl, _, _, rfl, by omega, by rw [la]; omega, ?_⟩
    refine ⟨_, rfl, sh, dx, _, rfl, h1, rfl, _, rfl, small0, fun nl nn => ?_⟩
    have y2 : Same H (upd H nl (.lst [])) := same_new nn
    obtain ⟨n1, n2⟩ := hS.nnew nn
    exact lay_go (nas := []) (m := 1) ha (Ex.laid hT nn) rfl (hS.gw (same_ext y2)) hps upd_same n1 n2 ⟨rfl, fun i p r e => by cases e⟩ (by decide) (fun r' hr' => by cases hr') (by omega)
theorem ok_change {f g1 g2 g3 : Addr} {fd fd1 fd2 fd3 : FuncData} (T : Txt mg) (X : ShC K S) (F : Fun K "change" "Sheet.change" (mth nSheet 3) f fd)
    (G1 : FnOk P w K mg base CX0 2 g1 fd1 ["number", "last"] spNum0) (k1 : PySem.W.keepIn K (.ref g1) = true) (b1 : Binds K fd1 ["number", "last"] []) (m1 : mg "check_number" = some (.ref g1))
    (G2 : FnOk P w K mg base CX0 11 g2 fd2 ["row"] (spCRow K cs)) (k2 : PySem.W.keepIn K (.ref g2) = true) (b2 : Binds K fd2 ["row"] []) (m2 : mg "check_row" = some (.ref g2))
    (M3 : Meth K S "lay" g3) (G3 : FnOk P w K mg base (L2.CX P w) 16 g3 fd3 ["self", "number", "many", "rows"] (spLay K cs S R C)) (b3 : Binds K fd3 ["self", "number", "many", "rows"] []) :
    FnOk P w K mg base (L2.CX P w) 17 f fd ["self", "number", "row"] (spChange K cs S R C) := by
  refine F.okX sc_chg (fun vs H Q E h => ?_) (fun cdv A outer s H vs Q E hr h => ?_)
  · obtain ⟨sh, q, n, r, rfl, _⟩ := h
    rfl
  · obtain ⟨sh, q, n, r, rfl, hq, rl, dl, st, as, rows, gap, least, ts, ps, av, hT, hS, hps, ⟨d1, d2⟩, ha⟩ := h
    have r2 : Room 2 _ := hr.mono (by decide)
    have r10 : Room 11 _ := hr.mono (by decide)
    refine ⟨_, pss_cons (ps_expr (pe_call G1 r2 (by rfl) m1 k1 b1 .nil pass0 (pa_cons (pv 1) (pa_cons (pe_op op_sub (pe_callB call_len_seq (by rfl) T.len PySem.boot_len (pa_cons (pe_fld (pv 0) rfl) pa_nil)) pe_int) pa_nil))))
      (pss_cons (ps_expr (pe_call G2 r10 (by rfl) m2 k2 b2 .nil pass0 (pa_cons (pv 2) pa_nil)))
      (pss_one (ps_ret (pe_methS (pv 0) X.cS M3 G3 hr b3 (fun σ => passAt (takes_of rfl rfl rfl rfl) σ) (pa_cons (pv 1) (pa_cons pe_int (pa_cons (pe_lst (pa_cons (pv 2) pa_nil)) pa_nil))))))), ?_⟩
    obtain ⟨dx, h1⟩ := hS.she
    have la : (as.map V.ref).length = rows.length := by rw [List.length_map, hS.at_.len]
    refine ⟨_, rfl, _, rfl, sh, S, dx, _, _, rfl, h1, X.cS, X.nRows, rfl, rl, _, rfl, .inl hS.page.lst, _, _, rfl, rfl, _, _, rfl, by omega, by rw [la]; omega, ?_⟩
    refine ⟨_, rfl, q, r, rfl, hT, hq, d2, fun H1 x1 => ?_⟩
    have hS1 := hS.gw x1.ext
    obtain ⟨dx1, h11⟩ := hS1.she
    refine ⟨_, rfl, sh, dx1, _, rfl, h11, rfl, _, rfl, _, rfl, by show 1 ≤ sizeLine; decide, fun nl nn => ?_⟩
    have y2 : Same H1 (upd H1 nl (.lst [.ref q])) := same_new nn
    obtain ⟨n1, n2⟩ := hS1.nnew nn
    exact lay_go (nas := [q]) (m := 1) ha (x1.trans (Ex.laid x1.tab nn)) rfl (hS1.gw (same_ext y2)) hps upd_same n1 n2 (rows1 (same_sqT y2 (x1.sqT hq))) (by show 1 ≤ 2; decide) (fun r' hr' => by rw [List.mem_singleton.mp hr']; exact d2.loose.mono (by decide) (by decide)) (by omega)
end
end TGK

namespace TGK
open TG
open PySem PySem.Spec PyProof.Rows L2 Gx EnT
/-! ### what deeds change -/
/-- all but some lists and objects stays -/
def KM (A : Addr → Prop) (H H' : Hp) : Prop := ∀ c o, H c = some o → (∀ ps, o ≠ .tbl ps) → ¬ A c → H' c = some o
def Mob (H : Hp) (A : Addr → Prop) : Prop := ∀ c, A c → (∃ us, H c = some (.lst us)) ∨ (∃ C dx fs, H c = some (.ins C dx fs))
section
variable {K : PySem.W.Frag} {A B : Addr → Prop} {H H1 H' : Hp}
def KN (cs : List (Addr × Addr)) (A : Addr → Prop) (H H' : Hp) : Prop := ∀ c o, H c = some o → NT cs c o → ¬ A c → H' c = some o
theorem KN.w {cs : List (Addr × Addr)} (x : KN cs A H H') : KM A H H' := fun c o h n m => x c o h (.inl n) m
theorem KN.of {cs : List (Addr × Addr)} (x : XN cs H H') : KN cs A H H' := fun c o h n _ => x c o h n
theorem KN.tr {cs : List (Addr × Addr)} (x : KN cs A H H1) (y : KN cs A H1 H') : KN cs A H H' := fun c o h n m => y c o (x c o h n m) n m
theorem KM.of (x : LamX.ExtN H H') : KM A H H' := fun c o h n _ => x c o h n
theorem KM.tr (x : KM A H H1) (y : KM A H1 H') : KM A H H' := fun c o h n m => y c o (x c o h n m) n m
theorem KM.mono (x : KM A H H') (h : ∀ c, A c → B c) : KM B H H' := fun c o e n m => x c o e n fun z => m (h c z)
theorem Mob.km (m : Mob H B) (x : KM A H H') (a : Mob H' A) : Mob H' B := fun c hc => by
  by_cases q : A c
  · exact a c q
  · rcases m c hc with ⟨us, e⟩ | ⟨C, dx, fs, e⟩
    · exact .inl ⟨us, x _ _ e (fun ps z => by cases z) q⟩
    · exact .inr ⟨C, dx, fs, x _ _ e (fun ps z => by cases z) q⟩
theorem Mob.gw (m : Mob H A) (x : LamX.ExtN H H') : Mob H' A := fun c hc => by
  rcases m c hc with ⟨us, e⟩ | ⟨C, dx, fs, e⟩
  · exact .inl ⟨us, x _ _ e fun ps z => by cases z⟩
  · exact .inr ⟨C, dx, fs, x _ _ e fun ps z => by cases z⟩
theorem Mob.live (m : Mob H A) : Live H A := fun c hc => by
  rcases m c hc with ⟨us, e⟩ | ⟨C, dx, fs, e⟩
  · exact ⟨_, e, fun ps z => by cases z⟩
  · exact ⟨_, e, fun ps z => by cases z⟩
theorem sqT_km {t : Addr} {xs : List V} (x : KM A H H') (m : Mob H A) (h : SqT K H t xs) : SqT K H' t xs := by
  rcases h with (h | ⟨u, h⟩) | h
  · refine .inl (.inl (x _ _ h (fun ps z => by cases z) fun z => ?_))
    rcases m _ z with ⟨us, e⟩ | ⟨C, dx, fs, e⟩ <;> rw [e] at h <;> cases h
  · refine .inl (.inr ⟨u, x _ _ h (fun ps z => by cases z) fun z => ?_⟩)
    rcases m _ z with ⟨us, e⟩ | ⟨C, dx, fs, e⟩ <;> rw [e] at h <;> cases h
  · exact .inr h
theorem tup_km {t : Addr} {xs : List V} (x : KM A H H') (m : Mob H A) (h : H t = some (.tup xs)) : H' t = some (.tup xs) :=
  x _ _ h (fun ps z => by cases z) fun z => by
    rcases m _ z with ⟨us, e⟩ | ⟨C, dx, fs, e⟩ <;> rw [e] at h <;> cases h
theorem RowsAt.km {as : List Addr} {rows : List (List Str)} (x : KM A H H') (m : Mob H A) (p : RowsAt K H as rows) : RowsAt K H' as rows := ⟨p.len, fun i q r e1 e2 => sqT_km x m (p.row i q r e1 e2)⟩
theorem PastAt.km {rl dl : Addr} {av : Addr → Prop} (x : KM A H H') (m : Mob H A) (h : ∀ c us, A c → H c = some (.lst us) → av c) : ∀ {ts : List Addr} {as : List Addr} {ps : List (List (List Str))}, PastAt K H rl dl av as ts ps → PastAt K H' rl dl av as ts ps
  | [], _, [], _ => by unfold PastAt; trivial
  | [], _, _ :: _, h => by unfold PastAt at h; exact h.elim
  | _ :: _, _, [], h => by unfold PastAt at h; exact h.elim
  | t :: ts, as, rows :: ps, g => by
    unfold PastAt at g ⊢
    obtain ⟨n, k, oas, lo, g1, g2, g3, g4, ga, g5, g6, g7, g8, g9⟩ := g
    exact ⟨n, k, oas, lo, tup_km x m g1, x _ _ g2 (fun ps z => by cases z) (fun z => ga (h _ _ z g2)), g3, g4, ga, g5, g6, g7.km x m, g8, PastAt.km x m h g9⟩
theorem kb_km {b l : Addr} (x : KB b l H H') : KM (fun c => c = b ∨ c = l) H H' := fun c o h _ n => x c o h (fun z => n (.inl z)) fun z => n (.inr z)
theorem box_mob {b l : Addr} (h : BoxAt H b l) : Mob H (fun c => c = b ∨ c = l) := by
  obtain ⟨ns, s1, e1, e2, _⟩ := h
  exact fun c z => .inl (z.elim (fun e => e ▸ ⟨_, e1⟩) fun e => e ▸ ⟨_, e2⟩)
theorem upd_km {a : Addr} {o : HO} : KM (fun c => c = a) H (upd H a o) := fun c u h _ n => by rw [upd_ne n]; exact h
end
section
variable {K : PySem.W.Frag} {S : Addr} {A : Addr → Prop} {H H' : Hp} {sh rl dl st : Addr} {as : List Addr} {rows : List (List Str)} {gap least : Int} {ts : List Addr} {ps : List (List (List Str))} {av av2 : Addr → Prop}
theorem ShtD.km (o : ShtD K S H sh rl dl st as rows gap least ts ps av) (x : KM A H H') (m : Mob H A) (m' : Mob H' A) (h : ∀ c us, A c → H c = some (.lst us) → av c) (n1 : ¬ A sh) (n2 : ¬ A rl) (n3 : ¬ A dl) : ShtD K S H' sh rl dl st as rows gap least ts ps av := by
  obtain ⟨dx, h1⟩ := o.she
  refine ⟨⟨dx, x _ _ h1 (fun ps z => by cases z) n1⟩, x _ _ o.rl_ (fun ps z => by cases z) n2, x _ _ o.dl_ (fun ps z => by cases z) n3, o.ne, o.at_.km x m, o.ok, ⟨sqT_km x m o.style.tup, o.style.g0, o.style.g1, o.style.l0, o.style.l1⟩, o.past.km x m h, fun y hy => ?_⟩
  by_cases q : A y
  · exact m'.live y q
  · obtain ⟨u, e, k⟩ := o.live y hy
    exact ⟨u, x _ _ e k q, k⟩
theorem ShtD.fresh (o : ShtD K S H sh rl dl st as rows gap least [] [] av) (h : Live H av2) : ShtD K S H sh rl dl st as rows gap least [] [] av2 :=
  ⟨o.she, o.rl_, o.dl_, o.ne, o.at_, o.ok, o.style, by unfold PastAt; trivial, h⟩
end
end TGK

namespace TG
open PySem PySem.Spec PyProof.Rows L2 Gx
/-! ### what is told of a def, told otherwise -/
section
variable {P : Program} {w : World} {K : PySem.W.Frag} {mg : Str → Option Value} {base : Heap} {k : Nat} {f : Addr} {fd : FuncData} {ps : List Str} {sp sp1 sp2 : Sp}
/-- a def that may raise, where it doesn't -/
def noE (sp : Sp) : Sp := fun vs H Q _ => sp vs H Q fun _ _ _ => False
theorem fn0_of (F : FnOk P w K mg base (L2.CX P w) k f fd ps sp) : FnOk P w K mg base CX0 k f fd ps (noE sp) := by
  refine ⟨fun vs H Q E h => F.len vs H Q _ h, fun A outer s H args us vs Q E hr e0 b r h => ?_⟩
  refine codeAny_mono (F.run A outer s H args us vs Q (fun _ _ _ => False) hr e0 b r h) fun r' s' hq => ?_
  cases r' with
  | error er =>
    obtain ⟨a, B, H', cls, d, _, _, _, _, _, _, _, z⟩ := hq
    exact z.elim
  | ok fl =>
    cases fl with
    | ret u => exact hq
    | next => exact hq
    | brk => exact False.elim hq
    | cont => exact False.elim hq
def orSp (sp1 sp2 : Sp) : Sp := fun vs H Q E => sp1 vs H Q E ∨ sp2 vs H Q E
theorem fn_or {CX : L2.CXT} (F1 : FnOk P w K mg base CX k f fd ps sp1) (F2 : FnOk P w K mg base CX k f fd ps sp2) : FnOk P w K mg base CX k f fd ps (orSp sp1 sp2) := by
  refine ⟨fun vs H Q E h => h.elim (F1.len vs H Q E) (F2.len vs H Q E), fun A outer s H args us vs Q E hr e0 b r h => ?_⟩
  rcases h with h | h
  · exact F1.run A outer s H args us vs Q E hr e0 b r h
  · exact F2.run A outer s H args us vs Q E hr e0 b r h
end
end TG


namespace TG
open PySem PySem.Spec PyProof.Rows L2 NdefX GenW Gx Lv
/-! ### list.count, flat items -/
theorem cntU {y : V} : ∀ {ys : List V} {its : List Value}, Vals ys its → ys.all flatV = true → its.countP (eqU y) = ys.countP (fun z => eqV z y)
  | [], _, .nil, _ => rfl
  | z :: ys, _, .cons r t, f => by
    rw [List.all_cons, Bool.and_eq_true] at f
    rw [List.countP_cons, List.countP_cons, eqU_of r f.1, cntU t f.2]
def rCnt (K : PySem.W.Frag) : V → List V → Hp → VK → Prop := fun x xs H Q => ∃ (a : Addr) (ys : List V) (y : V), x = .ref a ∧ xs = [y] ∧ SqL K H a ys ∧ flatV y = true ∧ ys.all flatV = true ∧ Q (.int (ys.countP (fun z => eqV z y) : Nat)) H
theorem mt_cnt {X : Cx} : MtR X "list.count" (rCnt X.K) := by
  intro pins s σ H x xs v us Q I rx rxs h
  obtain ⟨a, ys, y, rfl, rfl, hs, fy, fys, q⟩ := h
  cases rx
  obtain ⟨u, rfl, ru⟩ := rxs.one
  obtain ⟨its, rv, ⟨⟨cls, dd, data, sl⟩, n, ho, hc, hdn, hd⟩, hlen⟩ := I.list hs
  simp only at hc hd
  subst hc hd
  have ec : its.toArray.toList.countP (eqU y) = ys.countP (fun z => eqV z y) := cntU rv fys
  refine call_meets PySem.F.slot_list_count ⟨_, ho, rfl⟩ PySem.F.entry_list_count (PySem.F.args_list_count_2 _ _) (SeqAt.list_countAt a its.toArray n dd sl u (eqU y)) ⟨ho, fun w hw => mem_eqAt ru fy rv fys w (by simpa using hw), ?_⟩
  refine ⟨.int (ys.countP (fun z => eqV z y) : Nat), H, I.tok _, ⟨s.toks, ?_⟩, q⟩
  rw [← ec]
/-! ### isinstance and fields of a caught error -/
/-- its dict, if it has one, is told of -/
def XdAt (H : Hp) (d : Option Addr) : Prop := d = none ∨ ∃ dd fs, d = some dd ∧ H dd = some (.xd fs)
def rIsX (K : PySem.W.Frag) (cls : Value) (d : Option Addr) (a : Addr) : List V → Hp → VK → Prop := fun xs H Q => ∃ (c : V) (cv : Value) (b : Bool) (D : Addr), xs = [.ref a, c] ∧ cls = .ref D ∧ ExcC K D ∧ (∀ u, RelV c u → u = cv) ∧ PySem.W.kitOne K (.ref D) cv = some b ∧ XdAt H d ∧ Q (.bl b) H
theorem isCls_of {K : PySem.W.Frag} {D : Addr} (h : PySem.W.hasDictIn K D = true) : (PySem.W.clsIn K D).isSome = true := by
  obtain ⟨cd, hc, _⟩ := PySem.W.any_some h
  rw [hc]
  rfl
section
variable {X : Cx} {a : Addr} {oe : Obj} {cls : Value} {d : Option Addr} {pn : List (Addr × Obj)}
theorem call_isX (hz : Zc cls d oe) (hf : ∃ vs, oe.data = .fields vs) : CallR (X.suite a ((a, oe) :: pn)) (.builtin "isinstance") (rIsX X.K cls d a) := by
  intro pins s σ H xs us Q I r h
  obtain ⟨c, cv, b, D, rfl, rfl, C, hcv, e, hd, q⟩ := h
  cases r with
  | cons rx rr =>
    cases rr with
    | cons rt rr =>
      cases rr
      cases rx
      have ec := hcv _ rt
      subst ec
      obtain ⟨hget, _⟩ := I.pin (a, oe) (List.mem_append.mpr (.inl List.mem_cons_self))
      obtain ⟨vs, hv⟩ := hf
      have nc : PySem.W.notCls oe = true := by
        unfold PySem.W.notCls
        rw [hv] <;> rfl
      have fin : ∀ tk, EP (X.suite a ((a, oe) :: pn)) pins σ Q (.bool b) { s with toks := tk } := fun tk => ⟨.bl b, H, I.kept (t' := tk) fun _ _ z => z, rfl, q⟩
      rcases hd with rfl | ⟨dd, fs, rfl, hdd⟩
      · have J : PySem.W.InstAt s.heap a oe D none := by
          obtain ⟨h1, h2⟩ := hz
          refine ⟨hget, h1, nc, ?_⟩
          rw [h2]
          trivial
        exact PySem.W.kia_one (PySem.W.kitx_exc (isCls_of C.hd) C.hg C.hk C.hs C.ha C.hn C.ht C.hm) I.kIn J e (fun z => nomatch z) fin
      · have hx : ObjOk X.prog X.w H s.heap dd (.xd fs) := I.hok dd _ hdd
        obtain ⟨mA, hns, _⟩ := hx
        obtain ⟨od, ho, _⟩ := lookIn_ns hns
        have J : PySem.W.InstAt s.heap a oe D (some od) := ⟨hget, hz.1, nc, by rw [hz.2]; exact ho⟩
        exact PySem.W.kia_one (PySem.W.kitx_exc (isCls_of C.hd) C.hg C.hk C.hs C.ha C.hn C.ht C.hm) I.kIn J e (fun z => nomatch z) fin
def tXfX (K : PySem.W.Frag) (a : Addr) (cls : Value) (d : Option Addr) (f : Str) (te : TE) : TE := fun σ H Q => ∃ C : Addr, XfC K C ∧ PySem.W.findIn K (.ref C) f = some none ∧ tXf a cls d C f te σ H Q
theorem pe_xfX {e : Expr} {te : TE} {pos : Pos} {n : Str} (hz : Zc cls d oe) (hf : ∃ vs, oe.data = .fields vs) (he : PE (X.suite a ((a, oe) :: pn)) e te) (hb : attributeBase e n X.env (eval e X.env) = eval e X.env := by rfl) :
    PE (X.suite a ((a, oe) :: pn)) (.Attribute e n pos) (tXfX X.K a cls d n te) := by
  refine ⟨fun pins s σ H Q I h => ?_⟩
  obtain ⟨C, T, hno, h⟩ := h
  exact (pe_xf T hno hz hf he hb).run pins s σ H Q I h
end
/-! ### rules for an except suite, whose readings don't speak of the error's object -/
section
variable {X : Cx} {a : Addr} {l : List (Addr × Obj)}
theorem ix_listU : IxR (X.suite a l) (rIxL X.K) := ix_list
theorem op_inU : OpR (X.suite a l) (compareOp .In) (rIn X.K false) := op_in_seq
theorem mt_cntU : MtR (X.suite a l) "list.count" (rCnt X.K) := mt_cnt
theorem mt_indexU : MtR (X.suite a l) "list.index" (rIndex X.K) := mt_index
theorem pe_bmU {T name id : String} {r : V → List V → Hp → VK → Prop} {o e : Expr} {es : List Expr} {to : TE} {t : L2.TA} {apos cpos : Pos} (pa : PlainAttrs T) (slot : Slot T (name : Str) id) (hty : typeOf (.builtin id) = pure (.type "method_descriptor")) (hm : MtR (X.suite a l) id r)
    (ho : PE (X.suite a l) o to) (ha : PA (X.suite a l) (e :: es) t) (hbase : attributeBase o (name : Str) X.env (eval o X.env) = eval o X.env := by rfl)
    (hfew : ((backTo cpos (starEach (e :: es) X.env)).all (fun x => !x.1) && (backToKw cpos (keywordEach [] X.env)).all (fun x => x.1.isSome) && decide ((e :: es).length + ([] : List Keyword).length + (if ([] : List Keyword).isEmpty then 0 else 1) < 30)) = true := by rfl)
    (hline : (apos.endLine == cpos.line) = true := by rfl) (hs : starEach (e :: es) X.env = (false, eval e X.env) :: starEach es X.env := by rfl) (hplain : (backTo cpos (starEach es X.env)).any (·.1) = false := by rfl) :
    PE (X.suite a l) (.Call (.Attribute o (name : Str) apos) (e :: es) [] cpos) (tBM X.K T r to t) := pe_bm pa slot hty hm ho ha hbase hfew hline hs hplain
end
theorem xfC_of {K : PySem.W.Frag} {C : Addr} (h : ExcC K C) : XfC K C := ⟨h.hg, h.hk, h.hs, h.hd⟩
/-! ### a call by name of a lambda without parameters, in a try -/
def tCallX (P : Program) (w : World) (K : PySem.W.Frag) (mg : Str → Option Value) (base : Heap) (k i : Nat) (W : WX) : TE := fun σ H Q => ∃ (f : Addr) (F : NF) (e : Expr) (sp : Sp), σ[i]? = some (some (.ref f)) ∧ H f = some (FnL f F e) ∧ H F.c = some (LamX.CodeO F.c F.qual) ∧ LOkX P w K mg base k f F e sp ∧ sp [] H Q (WE W σ)
theorem pe_callX {X : Cx} {W : WX} {i k : Nat} {x : Str} {p pos : Pos} {P : Program} {w : World} {K : PySem.W.Frag} {mg : Str → Option Value} {base : Heap} (eX : X.prog = P ∧ X.w = w ∧ X.K = K ∧ X.mg = mg ∧ X.base = base) (hr : Room k X.A) (tk : Takes X W) (hN : X.N[i]? = some x) (hv : Vis X.env.scope x) (hd : (x == ("__debug__" : Str)) = false := by decide) (hcd : (x == ("__classdict__" : Str)) = false := by decide) :
    PE X (.Call (.Name x p) [] [] pos) (tCallX P w K mg base k i W) := by
  obtain ⟨rfl, rfl, rfl, rfl, rfl⟩ := eX
  refine ⟨fun pins s σ H Q I h => ?_⟩
  obtain ⟨f, F, b, sp, hs, hf, hc, L, q⟩ := h
  refine wpAny_Call_Name_kw (thn ((pe_var (pos := p) hN hv hd hcd).run pins s σ H (fun v H1 => v = .ref f ∧ H1 = H) I ⟨.ref f, hs, rfl, rfl⟩) fun u s1 ⟨v, H1, I1, r1, q1⟩ => ?_)
  obtain ⟨ev, eH⟩ := q1
  subst ev eH
  obtain rfl : u = Value.ref f := r1
  have at_ : PySem.W.FnAt f s1.heap := by
    obtain ⟨od, sl, pm, ctv, ho⟩ := fnL_at I1.hok hf
    exact ⟨_, od, _, sl, ho⟩
  refine PySem.W.callWith_F0 (first := []) at_ ?_
  refine wpAny_call (codeAny_mono (L.run X.A X.stack s1 H1 Q (WE W σ) hr I1.env0 hf hc q) fun r' s' hq => ?_)
  cases r' with
  | error er => exact passAt tk σ pins H1 s1 er s' I1 hq
  | ok fl =>
    cases fl with
    | ret u => exact I1.after hq
    | next => exact False.elim hq
    | brk => exact False.elim hq
    | cont => exact False.elim hq
end TG


namespace TG
open PySem PySem.Spec PyProof.Rows L2 NdefX GenW Gx Lv
/-! ### cells told of, and what a lambda caught -/
theorem caught_of {cells : List (Str × Addr)} {N names fr : List Str} {σ : L2.St} {cl : List (Addr × Obj)} {F : NF} {ws : List (Option V)} {H : Hp} (T : ToldC cells N names σ cl) (hF : F.cl = cloFrom cells F.scope.names [])
    (hfr : ∀ y, (y, NameKind.free) ∈ F.scope.names → y ∈ fr) (hrf : ∀ y ∈ fr, (y, NameKind.free) ∈ F.scope.names) (hsub : ∀ y ∈ fr, y ∈ names) (len : ws.length = fr.length) (told : ∀ c o, cl.lookup c = some o → H c = some (cellF o))
    (hw : ∀ (i : Nat) (y : Str) (v : V), fr[i]? = some y → ws[i]? = some (some v) → ∃ j : Nat, N[j]? = some y ∧ σ[j]? = some (some v)) : Caught F fr ws cl H := by
  have at_ : ∀ y c, F.cl.lookup y = some c → y ∈ fr ∧ ∃ o v, cells.lookup y = some c ∧ cl.lookup c = some o ∧ o.data = .cell v := fun y c e => by
    rw [hF] at e
    rcases cloFrom_mem (PySem.mem_of_lookup e) with z | ⟨z, hc⟩
    · cases z
    · have hy := hfr y z
      obtain ⟨c', o, v, e1, e2, e3⟩ := T.all y (hsub y hy)
      rw [e1] at hc
      have hc : c = c' := hc
      subst hc
      exact ⟨hy, o, v, e1, e2, e3⟩
  refine ⟨len, told, fun y c e => ?_, fun x y c e1 e2 => ?_, fun i y e => ?_⟩
  · obtain ⟨_, o, v, _, h2, h3⟩ := at_ y c e
    exact ⟨o, v, h2, h3⟩
  · obtain ⟨_, _, _, h1, _⟩ := at_ x c e1
    obtain ⟨_, _, _, h2, _⟩ := at_ y c e2
    exact T.inj x y c h1 h2
  · have hy : y ∈ fr := List.mem_of_getElem? e
    have hm := cloFrom_has (cells := cells) (acc := []) (hrf y hy)
    have hs : ∃ c, F.cl.lookup y = some c := by
      rw [hF]
      cases q : (cloFrom cells F.scope.names []).lookup y with
      | some c => exact ⟨c, rfl⟩
      | none =>
        have := List.lookup_eq_none_iff.mp q _ hm
        simp at this
    obtain ⟨c, hc⟩ := hs
    obtain ⟨_, o, v0, h1, h2, h3⟩ := at_ y c hc
    refine ⟨c, hc, fun v hv => ?_⟩
    obtain ⟨j, hj1, hj2⟩ := hw i y v e hv
    obtain ⟨u, e1, e2⟩ := T.val y (hsub y hy) c o h1 h2 j v hj1 hj2
    exact ⟨o, u, h2, e1, e2⟩
section
variable {cs : List (Addr × Addr)} {H H' : Hp} {cl : List (Addr × Obj)}
theorem add_at (un : ∀ c o, cl.lookup c = some o → H c = none) {b : Addr} {o : HO} (h : H b = some o) : addC H cl b = some o := by
  cases r : cl.lookup b with
  | some u => rw [un b u r] at h; cases h
  | none => rw [addC_out r]; exact h
theorem del_at (un : ∀ c o, cl.lookup c = some o → H c = none) {b : Addr} {o : HO} (h : H b = some o) : cl.lookup b = none := by
  cases r : cl.lookup b with
  | some u => rw [un b u r] at h; cases h
  | none => rfl
theorem add_none {D : Addr} (h : addC H cl D = none) : cl.lookup D = none ∧ H D = none := by
  cases r : cl.lookup D with
  | some u => rw [addC_in r] at h; cases h
  | none => rw [addC_out r] at h; exact ⟨rfl, h⟩
theorem del_upd_add (un : ∀ c o, cl.lookup c = some o → H c = none) {D : Addr} {o : HO} (hD : cl.lookup D = none) : delC (upd (addC H cl) D o) cl = upd H D o := by
  funext b
  cases r : cl.lookup b with
  | some u =>
    rw [delC_in r, upd_ne (fun z => by rw [z, hD] at r; cases r)]
    exact (un b u r).symm
  | none =>
    rw [delC_out r]
    by_cases hb : b = D
    · rw [hb, upd_same, upd_same]
    · rw [upd_ne hb, upd_ne hb, addC_out r]
theorem tabs_add (un : ∀ c o, cl.lookup c = some o → H c = none) (t : Tabs cs H) : Tabs cs (addC H cl) := fun p hp => by
  obtain ⟨ps, h1, h2⟩ := t p hp
  exact ⟨ps, add_at un h1, h2⟩
/-- what came of a heap with the cells told, the cells untold again -/
theorem ex_del (un : ∀ c o, cl.lookup c = some o → H c = none) (told : ∀ c o, cl.lookup c = some o → H' c = some (cellF o)) (x : Ex cs (addC H cl) H') : Ex cs H (delC H' cl) := by
  refine ⟨fun b o h n => ?_, fun p hp => ?_, fun b h => ?_, fun b o h n => ?_⟩
  · rw [delC_out (del_at un h)]
    exact x.ext b o (add_at un h) n
  · obtain ⟨ps, h1, h2⟩ := x.tab p hp
    have r : cl.lookup p.2 = none := by
      cases r : cl.lookup p.2 with
      | none => rfl
      | some u => rw [told _ u r] at h1; cases h1
    exact ⟨ps, by rw [delC_out r]; exact h1, h2⟩
  · cases r : cl.lookup b with
    | some u => exact un b u r
    | none =>
      rw [delC_out r] at h
      exact (add_none (x.old b h)).2
  · rw [delC_out (del_at un h)]
    exact x.oth b o (add_at un h) n
end
end TG


namespace Dl
open PySem PySem.Spec PyProof.Rows L2 NdefX GenW Lv
/-! Lambdas of one parameter, whose default is a whole number, and that capture cells. -/
/-- the function's data, its defaults in a tuple -/
def fnD (name qual : Str) (params : Arguments) (body : Expr) (scope : Scope) (cl : List (Str × Addr)) (pm cdv ct : Value) (dV : Value) : FuncData :=
  { name := name, qualname := qual, params := params, body := .expr body, scope := scope, globals := mainGlobals, closure := cl, defaults := dV, kwdefaults := .none, pyModule := pm, code := cdv, closureTuple := ct, builtins := builtinsNs }
def objD (name qual : Str) (params : Arguments) (body : Expr) (scope : Scope) (cl : List (Str × Addr)) (pm : Value) (c' : Addr) (ct : Value) (dV : Value) : Obj := { cls := .type "function", data := .func (fnD name qual params body scope cl pm (.ref c') ct dV) }
theorem makeTail {M : Model} {A : Around} {E : Value → Shared → Prop} {s : Shared} {name qual : Str} {params : Arguments} {body : Expr} {scope : Scope} {env : Env} {c P : Addr} {ps : Array Value} {pos : Pos} {firstLine : Nat} {mg : Str → Option Value} {q : Str × Addr} {r : List (Str × Addr)} {dV : Value} {Q : Value → Shared → Prop}
    (hcl : closureFor scope env = pure (q :: r)) (hge0 : env.globals = mainGlobals) (hg : s.heap.Ns mainGlobals mg) (hcode : env.code = .ref c) (C : PySem.W.CodeHd s.heap c P) (hP : s.heap.get? P = some (PySem.W.tabObj ps)) (ht : TriplesOk ps.toList) (hnf : codeAmong pos ps.toList = none)
    (hgP : mainGlobals ≠ P) (hb : s.heap.BuiltinsAt mg P)
    (h : ∀ (c' : Nat) (ctv : Value) (h' : Heap) (tk : Nat), Heap.ExtBut P s.heap h' → s.heap.objs.size ≤ c' → c' < h'.objs.size → h'.CodeRec (.ref c') qual → h'.get? P = some (PySem.W.tabObj (ps ++ #[rawInt pos.line, rawInt pos.col, .ref c'])) →
      Q (.ref h'.objs.size) { heap := h'.push (objD name qual params body scope (q :: r) ((mg "__name__").getD .none) c' ctv dV), gens := s.gens, drawn := s.drawn, toks := tk, os := s.os }) :
    wpAny M A (PySem.makeTail name qual params (.expr body) scope env dV .none none pos firstLine) Q E s := by
  obtain ⟨bm, ob, hbm, hne0, hl, hneP, hbo, hcls, hdict, hdata⟩ := hb
  unfold PySem.makeTail
  rw [hcl, hge0]
  refine wpAny_bind (wpAny_pure ?_)
  rw [if_neg (by simp)]
  refine wpAny_bind (wpAny_newTextTuple ?_)
  refine wpAny_bind (wpAny_functionCodeX hcode (PySem.W.CodeHd.code (C.keeps fun b o e => Heap.get?_push_of_some _ e) (Heap.get?_push_of_some _ hP) ht) (PySem.W.CodeHd.tab (C.keeps fun b o e => Heap.get?_push_of_some _ e) (Heap.get?_push_of_some _ hP)) hnf fun c' h' tk hx hge hlt x hrec htb x_1 => ?_)
  have hg' := Heap.Ns.extBut (Heap.Ns.push hg _) hx hgP
  have hx' : Heap.ExtBut P s.heap h' := fun b o hb' e => hx b o hb' (Heap.get?_push_of_some _ e)
  have hge' : s.heap.objs.size ≤ c' := by
    have hge2 : s.heap.objs.size + 1 ≤ c' := by
      have := hge
      rw [Heap.size_push] at this
      exact this
    omega
  refine wpAny_bind (wpAny_builtinsFor hg' hbm hne0 (hx' bm ob hneP hbo) hcls hdict hdata (wpAny_bind (wpAny_nsGet hg' (wpAny_bind (wpAny_pure (wpAny_newObj_type (h c' _ h' tk hx' hge' hlt hrec htb.2) ?_))))))
  simp [sizeOk]
theorem makeTailHit {M : Model} {A : Around} {E : Value → Shared → Prop} {s : Shared} {name qual : Str} {params : Arguments} {body : Expr} {scope : Scope} {env : Env} {c P c' : Addr} {ps : Array Value} {pos : Pos} {firstLine : Nat} {mg : Str → Option Value} {q : Str × Addr} {r : List (Str × Addr)} {dV : Value} {Q : Value → Shared → Prop}
    (hcl : closureFor scope env = pure (q :: r)) (hge0 : env.globals = mainGlobals) (hg : s.heap.Ns mainGlobals mg) (hcode : env.code = .ref c) (C : PySem.W.CodeHd s.heap c P) (hP : s.heap.get? P = some (PySem.W.tabObj ps)) (ht : TriplesOk ps.toList) (hh : codeAmong pos ps.toList = some (.ref c'))
    (hb : s.heap.BuiltinsAt mg P)
    (h : ∀ (ctv : Value) (h' : Heap) (tk : Nat), (∀ (b : Addr) (o : Obj), s.heap.get? b = some o → h'.get? b = some o) → s.heap.objs.size ≤ h'.objs.size →
      Q (.ref h'.objs.size) { heap := h'.push (objD name qual params body scope (q :: r) ((mg "__name__").getD .none) c' ctv dV), gens := s.gens, drawn := s.drawn, toks := tk, os := s.os }) :
    wpAny M A (PySem.makeTail name qual params (.expr body) scope env dV .none none pos firstLine) Q E s := by
  obtain ⟨bm, ob, hbm, hne0, hl, hneP, hbo, hcls, hdict, hdata⟩ := hb
  unfold PySem.makeTail
  rw [hcl, hge0]
  refine wpAny_bind (wpAny_pure ?_)
  rw [if_neg (by simp)]
  refine wpAny_bind (wpAny_newTextTuple ?_)
  refine wpAny_bind (wpAny_functionCode_hit hcode (PySem.W.CodeHd.code (C.keeps fun b o e => Heap.get?_push_of_some _ e) (Heap.get?_push_of_some _ hP) ht) hh ?_)
  have hg' := Heap.Ns.push hg { cls := Value.type "tuple", data := Data.seq (List.map (fun x => Value.ref x.snd) ((q :: r).mergeSort fun a b => decide (a.fst.cps.toList ≤ b.fst.cps.toList))).toArray }
  refine wpAny_bind (wpAny_builtinsFor hg' hbm hne0 (Heap.get?_push_of_some _ hbo) hcls hdict hdata (wpAny_bind (wpAny_nsGet hg' (wpAny_bind (wpAny_pure (wpAny_newObj_type (h _ _ _ (fun b o e => Heap.get?_push_of_some _ e) (by rw [Heap.size_push]; exact Nat.le_succ _)) ?_))))))
  simp [sizeOk]
/-- the object at f is the lambda F of the body e, its defaults at t -/
def FnD (f : Addr) (F : NF) (e : Expr) (t : Addr) : HO := .ext fun h => ∃ (od : Option Addr) (sl : Array (Option Value)) (pm ctv : Value), h.get? f = some (⟨.type "function", od, .func (fnD F.name F.qual F.params e F.scope F.cl pm (.ref F.c) ctv (.ref t)), sl⟩ : Obj)
theorem fnD_at {P : Program} {w : World} {H : Hp} {h : Heap} {f : Addr} {F : NF} {e : Expr} {t : Addr} (hok : HOk P w H h) (q : H f = some (FnD f F e t)) : ∃ (od : Option Addr) (sl : Array (Option Value)) (pm ctv : Value), h.get? f = some (⟨.type "function", od, .func (fnD F.name F.qual F.params e F.scope F.cl pm (.ref F.c) ctv (.ref t)), sl⟩ : Obj) := by
  have z := hok f _ q
  obtain ⟨z, _, _⟩ := z
  exact z
theorem fnD_ne {f : Addr} {F : NF} {e : Expr} {t : Addr} (ps : Array Value) : FnD f F e t ≠ .tbl ps := fun z => by
  unfold FnD at z
  cases z
section
variable {X : Cx} {pins : List (Addr × Obj)} {σ : L2.St} {H : Hp} {s : Shared}
theorem inv_lamD {F : NF} {e : Expr} {t : Addr} {tk : Nat} {pm ctv : Value} (I : Inv X pins σ H s) :
    Inv X pins σ (upd H s.heap.objs.size (FnD s.heap.objs.size F e t)) { s with heap := s.heap.push (objD F.name F.qual F.params e F.scope F.cl pm F.c ctv (.ref t)), toks := tk } := by
  refine I.laid (a := s.heap.objs.size) (fun b u q => Heap.get?_push_of_some _ q) (Nat.le_refl _) ?_
  have q : (s.heap.push (objD F.name F.qual F.params e F.scope F.cl pm F.c ctv (.ref t))).get? s.heap.objs.size = some (objD F.name F.qual F.params e F.scope F.cl pm F.c ctv (.ref t)) := Heap.get?_push_size _ rfl
  exact ⟨⟨_, _, pm, ctv, q⟩, ⟨_, q⟩, fun h1 h2 ⟨od, sl, p, t, z⟩ st => ⟨od, sl, p, t, st _ z⟩⟩
theorem inv_tup0 {v : V} {u : Value} (I : Inv X pins σ H s) (r : RelV v u) :
    Inv X pins σ (upd H s.heap.objs.size (.tup [v])) { s with heap := s.heap.push { cls := Value.type "tuple", data := Data.seq [u].toArray } } :=
  I.laid (t' := s.toks) (fun b u e => Heap.get?_push_of_some _ e) (Nat.le_refl _) ⟨by show 1 ≤ sizeLine; decide, [u], .cons r .nil, _, Heap.get?_push_size s.heap rfl, rfl, 0, rfl⟩
/-- a lambda with one default is made -/
theorem lam_valD {c P : Addr} {params : Arguments} {body d : Expr} {scope : Scope} {pos : Pos} {Q : Value → Shared → Prop} {q0 : Str × Addr} {r0 : List (Str × Addr)} {v : V} (I : Inv X pins σ H s) (B : LamX.TabB X.base X.mg c P) (hcode : X.env.code = .ref c)
    (hT : LamX.TabS H P (X.env.qual ++ "<lambda>")) (hdef : params.defaults = [d]) (hkw : params.kw_defaults = []) (hko : params.kwonlyargs = []) (hd : PE X d (tC v)) (hfree : ∀ y ∈ scope.names, y.2 = .free → ∃ c, X.env.cells.lookup y.1 = some c) (hclo : cloFrom X.env.cells scope.names [] = q0 :: r0)
    (k : ∀ (f c' t : Addr) (H1 : Hp) (s' : Shared), Inv X pins σ H1 s' → (∀ b o, H b = some o → b ≠ P → H1 b = some o) → (∀ b, H1 b = none → H b = none) → LamX.TabS H1 P (X.env.qual ++ "<lambda>") → H f = none →
      H1 f = some (FnD f ⟨"<lambda>", X.env.qual ++ "<lambda>", params, [], scope, cloFrom X.env.cells scope.names [], c'⟩ body t) → H1 c' = some (LamX.CodeO c' (X.env.qual ++ "<lambda>")) → H1 t = some (.tup [v]) → Q (.ref f) s') :
    wpAny (model X.prog X.w) X.A (eval (.Lambda params body scope pos) X.env) Q X.xe s := by
  refine PySem.W.kdv_lam (by rw [hdef]; rfl) hkw ?_
  rw [hdef]
  show wpAny _ _ (evalAll (eval d X.env :: [])) _ _ _
  refine evalAll_cons (thn (hd.run pins s σ H (fun x H1 => x = v ∧ H1 = H) I ⟨rfl, rfl⟩) fun u s1 ⟨x, H1, I1, ru, ex, eH⟩ => ?_)
  subst ex
  subst eH
  refine wpAny_pure ?_
  rw [makeFunction_eq]
  simp only [List.isEmpty_cons, hko, List.zip_nil_left, List.filterMap_nil, List.isEmpty_nil, if_true, Bool.false_eq_true, if_false]
  refine wpAny_bind (wpAny_newTextTuple ?_)
  refine wpAny_bind (wpAny_pure ?_)
  refine wpAny_bind (wpAny_pure ?_)
  have I2 := inv_tup0 I1 ru
  have nt := I1.hok.fresh (Nat.le_refl s1.heap.objs.size)
  have ht2 : upd H1 s1.heap.objs.size (.tup [x]) s1.heap.objs.size = some (.tup [x]) := upd_same
  have kp2 : ∀ b o, H1 b = some o → upd H1 s1.heap.objs.size (.tup [x]) b = some o := fun b o e => by rw [upd_ne (ne_of_none e nt)]; exact e
  have np2 : ∀ b, upd H1 s1.heap.objs.size (.tup [x]) b = none → H1 b = none := fun b e => by
    unfold upd at e
    split at e
    · cases e
    · exact e
  obtain ⟨ps, tP0, tok, tin0⟩ := hT
  have tP := kp2 _ _ tP0
  have tin : ∀ pos cv, codeAmong pos ps.toList = some cv → ∃ c0, cv = .ref c0 ∧ upd H1 s1.heap.objs.size (.tup [x]) c0 = some (LamX.CodeO c0 (X.env.qual ++ "<lambda>")) := fun pos cv e => by
    obtain ⟨c0, e1, e2⟩ := tin0 pos cv e
    exact ⟨c0, e1, kp2 _ _ e2⟩
  generalize upd H1 s1.heap.objs.size (.tup [x]) = H2 at I2 ht2 kp2 np2 tP tin ⊢
  generalize s1.heap.objs.size = t at ht2 ⊢
  generalize hs2 : ({ heap := s1.heap.push { cls := Value.type "tuple", data := Data.seq [u].toArray }, gens := s1.gens, drawn := s1.drawn, toks := s1.toks, os := s1.os } : Shared) = s2 at I2 ⊢
  have bP : s2.heap.BuiltinsAt X.mg P := B.bm.keeps I2.bk
  have gP : s2.heap.get? P = some { cls := .none, data := .fields ps } := I2.hok P _ tP
  have none3 : ∀ {G : Hp} {x y z : Addr} {o u v : HO} {b : Addr}, upd (upd (upd G x o) y u) z v b = none → G b = none := fun {G x y z o u v b} q => by
    have r1 := q
    unfold upd at r1
    split at r1
    · cases r1
    split at r1
    · cases r1
    split at r1
    · cases r1
    exact r1
  have hclf : closureFor scope X.env = pure (q0 :: r0) := by rw [← hclo]; exact closure_ok hfree
  cases hc : codeAmong pos ps.toList with
  | some cv =>
    obtain ⟨c', e, hco⟩ := tin pos cv hc
    subst e
    refine makeTailHit (mg := X.mg) (c := c) (P := P) (ps := ps) hclf I2.ok.glob (I2.mod.glob.keeps I2.bk) hcode (B.code.keeps I2.bk) gP tok hc bP fun ctv h' tk hx2 hsz => ?_
    have I3 : Inv X pins σ H2 { s2 with heap := h', toks := tk } := I2.kept hx2
    have nF : H2 h'.objs.size = none := I3.hok.fresh (Nat.le_refl _)
    have I4 := inv_lamD (F := ⟨"<lambda>", X.env.qual ++ "<lambda>", params, [], scope, cloFrom X.env.cells scope.names [], c'⟩) (e := body) (t := t) (tk := tk) (pm := (X.mg "__name__").getD .none) (ctv := ctv) I3
    rw [hclo] at I4
    refine k h'.objs.size c' t _ _ I4 (fun b o q _ => by rw [upd_ne (ne_of_none (kp2 _ _ q) nF)]; exact kp2 _ _ q) (fun b q => np2 b ?_) ⟨ps, by rw [upd_ne (ne_of_none tP nF)]; exact tP, tok, fun p' cv' q => ?_⟩ (np2 _ nF) (by rw [upd_same, hclo]) (by rw [upd_ne (ne_of_none hco nF)]; exact hco) (by rw [upd_ne (ne_of_none ht2 nF)]; exact ht2)
    · unfold upd at q
      split at q
      · cases q
      · exact q
    · obtain ⟨c0, e1, e2⟩ := tin p' cv' q
      exact ⟨c0, e1, by rw [upd_ne (ne_of_none e2 nF)]; exact e2⟩
  | none =>
    refine makeTail (mg := X.mg) (c := c) (P := P) (ps := ps) hclf I2.ok.glob (I2.mod.glob.keeps I2.bk) hcode (B.code.keeps I2.bk) gP tok hc B.gP bP fun c' ctv h' tk hx2 hge hlt hrec htb => ?_
    obtain ⟨c2, oc, vs, t2, e2, hoc, hd2, hv⟩ := hrec
    cases e2
    have nC : H2 c' = none := I2.hok.fresh hge
    have I3 := LamX.inv_table (t' := tk) (more := #[rawInt pos.line, rawInt pos.col, .ref c']) (h' := h') I2 tP (fun b o hb q => hx2 b o hb q) htb hge ⟨oc, vs, t2, hoc, hd2, hv⟩
    have nF := I3.hok.fresh (Nat.le_refl _)
    have I4 := inv_lamD (F := ⟨"<lambda>", X.env.qual ++ "<lambda>", params, [], scope, cloFrom X.env.cells scope.names [], c'⟩) (e := body) (t := t) (tk := tk) (pm := (X.mg "__name__").getD .none) (ctv := ctv) I3
    rw [hclo] at I4
    have fC : h'.objs.size ≠ c' := Nat.ne_of_gt hlt
    have pC : P ≠ c' := ne_of_none tP nC
    have nF0 : H2 h'.objs.size = none := I2.hok.fresh (Nat.le_trans hge (Nat.le_of_lt hlt))
    have pF : P ≠ h'.objs.size := ne_of_none tP nF0
    have eL : (ps ++ #[rawInt pos.line, rawInt pos.col, .ref c']).toList = ps.toList ++ [rawInt pos.line, rawInt pos.col, .ref c'] := by simp
    have kk : ∀ b o, H2 b = some o → b ≠ P → upd (upd (upd H2 P (.tbl (ps ++ #[rawInt pos.line, rawInt pos.col, .ref c']))) c' (LamX.CodeO c' (X.env.qual ++ "<lambda>"))) h'.objs.size (FnD h'.objs.size ⟨"<lambda>", X.env.qual ++ "<lambda>", params, [], scope, q0 :: r0, c'⟩ body t) b = some o := fun b o q hb => by
      rw [upd_ne (ne_of_none q nF0), upd_ne (ne_of_none q nC), upd_ne hb]
      exact q
    refine k h'.objs.size c' t _ _ I4 (fun b o q hb => kk b o (kp2 _ _ q) hb) (fun b q => np2 b (none3 q)) ⟨_, by rw [upd_ne pF, upd_ne pC, upd_same], by rw [eL]; exact PySem.TriplesOk_snoc _ _ _ _ tok, fun p' cv q => ?_⟩ (np2 _ nF0) (by rw [upd_same, hclo]) (by rw [upd_ne fC.symm, upd_same]) (kk t _ ht2 fun e => by rw [e, tP] at ht2; cases ht2)
    rw [eL] at q
    rcases LamX.among_app _ tok q with z | z
    · obtain ⟨c0, e1, e2⟩ := tin p' cv z
      exact ⟨c0, e1, kk _ _ e2 (fun y => by rw [y, tP] at e2; exact LamX.codeO_ne ps (Option.some.inj e2).symm)⟩
    · exact ⟨c', z, by rw [upd_ne fC.symm, upd_same]⟩
end
end Dl


namespace TGK
open TG
open PySem PySem.Spec PyProof.Rows L2 NdefX GenW Gx Lv Dl EnT
/-! ### what is a step by its word and its parts -/
abbrev s_is_step : Stmt := top 48
abbrev s_check_steps : Stmt := top 47
abbrev s_gone : Stmt := top 46
abbrev s_stepped : Stmt := top 45
def stepB (wd : Str) (n : Nat) : Bool := if wd = "take" then decide (n = 2) else (inV (.str wd) [.str "put", .str "change"] && decide (n = 3))
def StV (H : Hp) (v : V) (b : Bool) : Prop :=
  (b = false ∧ (v = .non ∨ (∃ z : Str, v = .str z) ∨ (∃ t xs, v = .ref t ∧ H t = some (.lst xs)) ∨ ∃ t xs, v = .ref t ∧ H t = some (.tup xs) ∧ (xs = [] ∨ ∃ (i : Int) (r : List V), xs = .int i :: r ∧ r.length ≤ 100))) ∨
  ∃ (t : Addr) (wd : Str) (r : List V), v = .ref t ∧ H t = some (.tup (.str wd :: r)) ∧ r.length ≤ 100 ∧ b = stepB wd (r.length + 1)
theorem StV.gw {H H' : Hp} {v : V} {b : Bool} (h : StV H v b) (x : LamX.ExtN H H') : StV H' v b := by
  rcases h with ⟨e, h | h | ⟨t, xs, e2, h⟩ | ⟨t, xs, e2, h, q⟩⟩ | ⟨t, wd, r, e, h, q⟩
  · exact .inl ⟨e, .inl h⟩
  · exact .inl ⟨e, .inr (.inl h)⟩
  · exact .inl ⟨e, .inr (.inr (.inl ⟨t, xs, e2, x _ _ h fun ps z => nomatch z⟩))⟩
  · exact .inl ⟨e, .inr (.inr (.inr ⟨t, xs, e2, x _ _ h (fun ps z => nomatch z), q⟩))⟩
  · exact .inr ⟨t, wd, r, e, x _ _ h (fun ps z => nomatch z), q⟩
section
variable {P : Program} {w : World} {K : PySem.W.Frag} {mg : Str → Option Value} {base : Heap} {cs : List (Addr × Addr)} {C : Addr}
theorem len_eq {n m : Nat} : decide (V.int ((n : Nat) : Int) = V.int ((m : Nat) : Int)) = decide (n = m) := by
  by_cases h : n = m
  · rw [decide_eq_true h, decide_eq_true (by rw [h])]
  · rw [decide_eq_false h, decide_eq_false (fun e => h (by injection e with e; exact Int.ofNat.inj e))]
theorem str_eq2 {a b : Str} : decide (V.str a = V.str b) = decide (a = b) := by
  by_cases h : a = b
  · rw [decide_eq_true h, decide_eq_true (by rw [h])]
  · rw [decide_eq_false h, decide_eq_false (fun e => h (by injection e))]
theorem len0 (v : V) (r : List V) : decide (V.int (((v :: r).length : Nat) : Int) = V.int 0) = false := (len_eq (m := 0)).trans (decide_eq_false (by rw [List.length_cons]; omega))
theorem at0 (v : V) (r : List V) : atI (v :: r) 0 = some v := atI_nat (j := 0) rfl
def spStep (cs : List (Addr × Addr)) : Sp := fun vs H Q _ => ∃ (v : V) (b : Bool), vs = [v] ∧ Tabs cs H ∧ StV H v b ∧ ∀ H', Ex cs H H' → Q (.bl b) H'
theorem sc_step : FnScope ["value"] ["value"] (defScope s_is_step) := ⟨rfl, rfl, rfl, by decide +kernel, rfl, by decide +kernel, by decide +kernel⟩
theorem ok_step {f : Addr} {fd : FuncData} (T : Txt mg) (F : Fun K "is_step" "is_step" s_is_step f fd) : FnOk P w K mg base CX0 1 f fd ["value"] (spStep cs) := by
  refine F.ok sc_step (fun vs H Q E h => ?_) (fun cdv A outer s H vs Q E hr h => ?_)
  · obtain ⟨v, b, rfl, _⟩ := h
    rfl
  · obtain ⟨v, b, rfl, hT, hv, k⟩ := h
    have szl : (9000 : Nat) < sizeLine := by decide
    refine ⟨_, (pss_cons (ps_if (PW.pt (pw_or (pt_not (pt_val (pe_callB call_isi (by rfl) T.isin (by decide +kernel) (pa_cons (pv 0) (pa_cons (pe_bltn (v := .ty "tuple") (by rfl) T.tuple (by decide +kernel) rfl) pa_nil))))) (pw_or1 (pt_cmpR op_eq (pe_callB call_len_seq (by rfl) T.len PySem.boot_len (pa_cons (pv 0) pa_nil)) pe_int (nomark _))))) (pss_one (ps_ret pe_bl)) pss_nil)
      (pss_cons (ps_if (pt_cmpR op_eq (pe_ix ix_tup (pv 0) pe_int (fun _ _ => rfl)) pe_str (nomark _)) (pss_one (ps_ret (pe_cmpR op_eq (pe_callB call_len_seq (by rfl) T.len PySem.boot_len (pa_cons (pv 0) pa_nil)) pe_int (nomark _)))) pss_nil)
      (pss_one (ps_ret (pe_and (pe_cmpR op_in_seq (pe_ix ix_tup (pv 0) pe_int (fun _ _ => rfl)) (pe_tup (pa_cons pe_str (pa_cons pe_str pa_nil))) (by with_unfolding_all rfl)) (pe_one (pe_cmpR op_eq (pe_callB call_len_seq (by rfl) T.len PySem.boot_len (pa_cons (pv 0) pa_nil)) pe_int (nomark _)))))))), ?_⟩
    rcases hv with ⟨rfl, rfl | ⟨z, rfl⟩ | ⟨t, xs, rfl, hs⟩ | ⟨t, xs, rfl, hs, hx⟩⟩ | ⟨t, wd, r, rfl, hs, hl, rfl⟩
    · exact ⟨_, rfl, _, _, _, _, false, rfl, .ty _, .base .non, kit_ty (by decide +kernel), false, rfl, iteT (k H (Ex.refl hT))⟩
    · exact ⟨_, rfl, _, _, _, _, false, rfl, .ty _, .base (.str z), kit_ty (by decide +kernel), false, rfl, iteT (k H (Ex.refl hT))⟩
    · exact ⟨_, rfl, _, _, _, _, false, rfl, .ty _, ty_list (SqL.of hs), kit_ty (by decide +kernel), false, rfl, iteT (k H (Ex.refl hT))⟩
    · have hS : SqT K H t xs := SqT.of hs
      refine ⟨_, rfl, _, _, _, _, true, rfl, .ty _, ty_tup hS, kit_ty (by decide +kernel), true, rfl, iteF ⟨_, rfl, t, _, rfl, .inr hS, rfl, ?_⟩⟩
      rcases hx with rfl | ⟨i, r, rfl, hl⟩
      · exact ⟨true, rfl, iteT (k H (Ex.refl hT))⟩
      · refine ⟨false, congrArg V.bl (len0 _ _), iteF ?_⟩
        refine ⟨_, rfl, t, _, 0, .int i, rfl, rfl, hS, at0 _ _, rfl, false, ?_, iteF ?_⟩
        · exact dF (fun e => nomatch e)
        · refine ⟨_, rfl, t, _, 0, .int i, rfl, rfl, hS, at0 _ _, by show 2 ≤ sizeLine; decide, fun T nT => ?_⟩
          have x := Ex.laid (o := .tup [.str "put", .str "change"]) hT nT
          refine ⟨T, _, rfl, .inr (SqT.of upd_same), rfl, rfl, false, ?_, iteF (k _ x)⟩
          rfl
    · have hS : SqT K H t (.str wd :: r) := SqT.of hs
      refine ⟨_, rfl, _, _, _, _, true, rfl, .ty _, ty_tup hS, kit_ty (by decide +kernel), true, rfl, iteF ⟨_, rfl, t, _, rfl, .inr hS, rfl, false, congrArg V.bl (len0 _ _), iteF ?_⟩⟩
      refine ⟨_, rfl, t, _, 0, .str wd, rfl, rfl, hS, at0 _ _, rfl, ?_⟩
      unfold stepB at k
      by_cases ht : wd = "take"
      · rw [if_pos ht] at k
        refine ⟨true, by rw [str_eq2]; exact dT ht, iteT ?_⟩
        refine ⟨_, rfl, t, _, rfl, .inr hS, rfl, ?_⟩
        rw [show (V.int 2) = V.int ((2 : Nat) : Int) from rfl, len_eq]
        exact k H (Ex.refl hT)
      · rw [if_neg ht] at k
        refine ⟨false, by rw [str_eq2]; exact dF ht, iteF ?_⟩
        refine ⟨_, rfl, t, _, 0, .str wd, rfl, rfl, hS, at0 _ _, by show 2 ≤ sizeLine; decide, fun T nT => ?_⟩
        have x := Ex.laid (o := .tup [.str "put", .str "change"]) hT nT
        have hS2 := x.sqT hS
        generalize hH : upd H T (.tup [.str "put", .str "change"]) = H2 at x hS2 ⊢
        refine ⟨T, _, rfl, .inr (SqT.of (by rw [← hH]; exact upd_same)), rfl, rfl, inV (.str wd) [.str "put", .str "change"], rfl, ?_⟩
        cases e : inV (.str wd) [.str "put", .str "change"] with
        | false =>
          rw [e] at k
          exact iteF (k _ x)
        | true =>
          rw [e] at k
          refine iteT ⟨_, rfl, t, _, rfl, .inr hS2, rfl, ?_⟩
          rw [show (V.int 3) = V.int ((3 : Nat) : Int) from rfl, len_eq]
          exact k _ x
/-! ### steps checked -/
def AllS (H : Hp) (xs : List V) : Prop := ∀ v ∈ xs, StV H v true
def spSteps (K : PySem.W.Frag) (cs : List (Addr × Addr)) : Sp := fun vs H Q _ => ∃ (a : Addr) (xs : List V), vs = [.ref a] ∧ Tabs cs H ∧ SqL K H a xs ∧ AllS H xs ∧ ∀ H', Ex cs H H' → Q .non H'
theorem sc_cst : FnScope ["steps", "number", "step"] ["steps"] (defScope s_check_steps) := ⟨rfl, rfl, rfl, by decide +kernel, rfl, by decide +kernel, by decide +kernel⟩
theorem ok_csteps {f gG : Addr} {fd fdG : FuncData} (T : Txt mg) (F : Fun K "check_steps" "check_steps" s_check_steps f fd)
    (G : FnOk P w K mg base CX0 1 gG fdG ["value"] (spStep cs)) (kG : PySem.W.keepIn K (.ref gG) = true) (bG : Binds K fdG ["value"] []) (mG : mg "is_step" = some (.ref gG)) : FnOk P w K mg base CX0 3 f fd ["steps"] (spSteps K cs) := by
  refine F.ok sc_cst (fun vs H Q E h => ?_) (fun cdv A outer s H vs Q E hr h => ?_)
  · obtain ⟨a, xs, rfl, _⟩ := h
    rfl
  · obtain ⟨a, xs, rfl, hT, hP, hO, k⟩ := h
    have nd := sc_cst.nd
    have r1 : Room 1 _ := hr.mono (by decide)
    refine ⟨_, (pss_cons (ps_if (pt_not (pt_val (pe_callB call_isi (by rfl) T.isin (by decide +kernel) (pa_cons (pv 0) (pa_cons (pe_bltn (v := .ty "list") (by rfl) T.list (by decide +kernel) rfl) pa_nil))))) (pss_one ps_never) pss_nil)
      (pss_one (ps_for PassesOwn.never rfl (pi_enum (by rfl) T.enum (pa_cons (pv 0) pa_nil)) (pg_tup rfl (pgs_cons (pg_name (i := 1) nd rfl (.inl rfl)) (pgs_cons (pg_name (i := 2) nd rfl (.inl rfl)) pgs_nil)))
      (pss_one (ps_if (pt_not (pt_val (pe_call G r1 (by rfl) mG kG bG .nil pass0 (pa_cons (pv 2) pa_nil)))) (pss_one ps_never) pss_nil))))), ?_⟩
    refine ⟨_, rfl, _, _, _, _, true, rfl, .ty _, ty_list hP, kit_ty (by decide +kernel), true, rfl, iteF ?_⟩
    refine ⟨_, rfl, a, _, rfl, hP, for_it (walk_enum (xs := xs)) (fun _ σ H' => Ex cs H H' ∧ ∃ c1 c2 : Option V, σ = [some (.ref a), c1, c2]) ⟨Ex.refl hT, _, _, rfl⟩ (fun i σ H' _ x => x.1.sqL hP) ?_ ?_⟩
    · rintro i x σ H3 H4 hi ⟨x3, c1, c2, rfl⟩ ⟨Tp, v, u, rfl, hn, rfl, hv, hu⟩
      cases hv
      have hu : xs[i]? = some u := hu
      have xl := Ex.laid (o := .tup [.int (i : Nat), u]) x3.tab hn
      have hg := (hO u (List.mem_of_getElem? hu)).gw (x3.trans xl).ext
      refine ⟨Tp, _, rfl, .inl (.inl upd_same), rfl, _, _, rfl, _, _, rfl, rfl, ?_⟩
      exact ⟨_, rfl, u, true, rfl, xl.tab, hg, fun H5 x5 => ⟨true, rfl, iteF ⟨(x3.trans xl).trans x5, _, _, rfl⟩⟩⟩
    · rintro σ H' ⟨x, _⟩
      exact k H' x
end
end TGK

namespace TGK
open TG
open PySem PySem.Spec PyProof.Rows L2 NdefX GenW Gx Lv Dl EnT
/-! ### steps done by a sheet -/
def StpV (K : PySem.W.Frag) (H : Hp) (t : Addr) : Deed → Prop
  | .put n r => ∃ q, H t = some (.tup [.str "put", .int (n : Nat), .ref q]) ∧ SqT K H q (sV r)
  | .take n => H t = some (.tup [.str "take", .int (n : Nat)])
  | .change n r => ∃ q, H t = some (.tup [.str "change", .int (n : Nat), .ref q]) ∧ SqT K H q (sV r)
  | _ => False
theorem StpV.gw {K : PySem.W.Frag} {H H' : Hp} {t : Addr} {d : Deed} (h : StpV K H t d) (x : LamX.ExtN H H') : StpV K H' t d := by
  have sq : ∀ {q : Addr} {xs : List V}, SqT K H q xs → SqT K H' q xs := fun {q xs} h => by
    rcases h with (h | ⟨u, h⟩) | h
    · exact .inl (.inl (x _ _ h fun ps z => nomatch z))
    · exact .inl (.inr ⟨u, x _ _ h fun ps z => nomatch z⟩)
    · exact .inr h
  cases d with
  | put n r =>
    obtain ⟨q, h1, h2⟩ := h
    exact ⟨q, x _ _ h1 (fun ps z => nomatch z), sq h2⟩
  | take n => exact x _ _ h fun ps z => nomatch z
  | change n r =>
    obtain ⟨q, h1, h2⟩ := h
    exact ⟨q, x _ _ h1 (fun ps z => nomatch z), sq h2⟩
  | strike n c k z => exact h.elim
  | erase n c k => exact h.elim
  | part n c k => exact h.elim
  | unite n => exact h.elim
  | back => exact h.elim
section
variable {P : Program} {w : World} {K : PySem.W.Frag} {mg : Str → Option Value} {base : Heap} {cs : List (Addr × Addr)} {S R C G B : Addr}
def spGone (K : PySem.W.Frag) (cs : List (Addr × Addr)) (S R C : Addr) : Sp := fun vs H Q E => ∃ (sh t : Addr) (d : Deed), vs = [.ref sh, .ref t] ∧ StpV K H t d ∧ DeedAt K cs S R C H Q E sh d
theorem sc_gone : FnScope ["sheet", "step"] ["sheet", "step"] (defScope s_gone) := ⟨rfl, rfl, rfl, by decide +kernel, rfl, by decide +kernel, by decide +kernel⟩
theorem at1 (u v : V) (r : List V) : atI (u :: v :: r) 1 = some v := atI_nat (j := 1) rfl
theorem at2' (u v x : V) (r : List V) : atI (u :: v :: x :: r) 2 = some x := atI_nat (j := 2) rfl
theorem ok_gone {f gp gc gt : Addr} {fd fdp fdc fdt : FuncData} (X : ShC K S) (F : Fun K "gone" "gone" s_gone f fd)
    (Mp : Meth K S "put" gp) (Gp : FnOk P w K mg base (L2.CX P w) 17 gp fdp ["self", "number", "row"] (spPut K cs S R C)) (bp : Binds K fdp ["self", "number", "row"] [])
    (Mc : Meth K S "change" gc) (Gc : FnOk P w K mg base (L2.CX P w) 17 gc fdc ["self", "number", "row"] (spChange K cs S R C)) (bc : Binds K fdc ["self", "number", "row"] [])
    (Mt : Meth K S "take" gt) (Gt : FnOk P w K mg base (L2.CX P w) 17 gt fdt ["self", "number"] (spTakeD K cs S R C)) (bt : Binds K fdt ["self", "number"] []) :
    FnOk P w K mg base (L2.CX P w) 18 f fd ["sheet", "step"] (spGone K cs S R C) := by
  refine F.okX sc_gone (fun vs H Q E h => ?_) (fun cdv A outer s H vs Q E hr h => ?_)
  · obtain ⟨sh, t, d, rfl, _⟩ := h
    rfl
  · have e1 : decide (V.str "put" = V.str "put") = true := by decide +kernel
    have e2 : decide (V.str "change" = V.str "put") = false := by decide +kernel
    have e3 : decide (V.str "change" = V.str "change") = true := by decide +kernel
    have e4 : decide (V.str "take" = V.str "put") = false := by decide +kernel
    have e5 : decide (V.str "take" = V.str "change") = false := by decide +kernel
    obtain ⟨sh, t, d, rfl, hd, ha⟩ := h
    refine ⟨_, (pss_cons (ps_if (pt_cmpR op_eq (pe_ix ix_tup (pv 1) pe_int (fun _ _ => rfl)) pe_str (nomark _)) (pss_one (ps_ret (pe_methS (pv 0) X.cS Mp Gp hr bp (fun σ => passAt (takes_of rfl rfl rfl rfl) σ) (pa_cons (pe_ix ix_tup (pv 1) pe_int (fun _ _ => rfl)) (pa_cons (pe_ix ix_tup (pv 1) pe_int (fun _ _ => rfl)) pa_nil))))) pss_nil)
    (pss_cons (ps_if (pt_cmpR op_eq (pe_ix ix_tup (pv 1) pe_int (fun _ _ => rfl)) pe_str (nomark _)) (pss_one (ps_ret (pe_methS (pv 0) X.cS Mc Gc hr bc (fun σ => passAt (takes_of rfl rfl rfl rfl) σ) (pa_cons (pe_ix ix_tup (pv 1) pe_int (fun _ _ => rfl)) (pa_cons (pe_ix ix_tup (pv 1) pe_int (fun _ _ => rfl)) pa_nil))))) pss_nil)
    (pss_one (ps_ret (pe_methS (pv 0) X.cS Mt Gt hr bt (fun σ => passAt (takes_of rfl rfl rfl rfl) σ) (pa_cons (pe_ix ix_tup (pv 1) pe_int (fun _ _ => rfl)) pa_nil)))))), ?_⟩
    obtain ⟨rl, dl, st, as, rows, gap, least, ts, ps, av, _, hS, _⟩ := id ha
    obtain ⟨dx, h1⟩ := hS.she
    cases d with
    | put n r =>
      obtain ⟨q, ht, hq⟩ := hd
      have hs := SqT.of (K := K) ht
      refine ⟨_, rfl, t, _, 0, .str "put", rfl, rfl, hs, at0 _ _, rfl, true, by rw [e1], iteT ?_⟩
      exact ⟨_, rfl, sh, dx, _, rfl, h1, rfl, _, rfl, t, _, 1, .int (n : Nat), rfl, rfl, hs, at1 _ _ _, _, rfl, t, _, 2, .ref q, rfl, rfl, hs, at2' _ _ _ _, sh, q, n, r, rfl, hq, ha⟩
    | change n r =>
      obtain ⟨q, ht, hq⟩ := hd
      have hs := SqT.of (K := K) ht
      refine ⟨_, rfl, t, _, 0, .str "change", rfl, rfl, hs, at0 _ _, rfl, false, by rw [e2], iteF ?_⟩
      refine ⟨_, rfl, t, _, 0, .str "change", rfl, rfl, hs, at0 _ _, rfl, true, by rw [e3], iteT ?_⟩
      exact ⟨_, rfl, sh, dx, _, rfl, h1, rfl, _, rfl, t, _, 1, .int (n : Nat), rfl, rfl, hs, at1 _ _ _, _, rfl, t, _, 2, .ref q, rfl, rfl, hs, at2' _ _ _ _, sh, q, n, r, rfl, hq, ha⟩
    | take n =>
      have hs := SqT.of (K := K) hd
      refine ⟨_, rfl, t, _, 0, .str "take", rfl, rfl, hs, at0 _ _, rfl, false, by rw [e4], iteF ?_⟩
      refine ⟨_, rfl, t, _, 0, .str "take", rfl, rfl, hs, at0 _ _, rfl, false, by rw [e5], iteF ?_⟩
      exact ⟨_, rfl, sh, dx, _, rfl, h1, rfl, _, rfl, t, _, 1, .int (n : Nat), rfl, rfl, hs, at1 _ _ _, sh, n, rfl, ha⟩
    | strike n c k z => exact hd.elim
    | erase n c k => exact hd.elim
    | part n c k => exact hd.elim
    | unite n => exact hd.elim
    | back => exact hd.elim
/-! ### stepped -/
def GoodD (K : PySem.W.Frag) (H : Hp) (xs : List V) (ds : List Deed) : Prop := ∀ (i : Nat) (d : Deed), ds[i]? = some d → ∃ t, xs[i]? = some (.ref t) ∧ StpV K H t d
def RunR (gap least : Int) (ds : List Deed) (Rr : Nat → List (List Str)) (L : Nat → List (List V)) : Prop := ∀ (i : Nat) (d : Deed), ds[i]? = some d → DOk (Rr i) d ∧ goneD (Rr i) gap least d = some (Rr (i + 1), L i)
theorem GoodD.gw {H H' : Hp} {xs : List V} {ds : List Deed} (h : GoodD K H xs ds) (x : LamX.ExtN H H') : GoodD K H' xs ds := fun i d e => by
  obtain ⟨t, h1, h2⟩ := h i d e
  exact ⟨t, h1, h2.gw x⟩
theorem ex_but {H H1 H2 : Hp} {A : Addr → Prop} (x : Ex cs H H1) (nA : ∀ c, A c → H c = none) (k : ∀ b o, H1 b = some o → NT cs b o → ¬ A b → H2 b = some o) (t : Tabs cs H2) (old : ∀ b, H2 b = none → H1 b = none) : Ex cs H H2 :=
  ⟨fun b o h n => k b o (x.ext b o h n) (.inl n) (fun z => by rw [nA b z] at h; cases h), t, fun b hb => x.old b (old b hb), fun b o h m => k b o (x.oth b o h m) (.inr m) (fun z => by rw [nA b z] at h; cases h)⟩
abbrev numsL (L : Nat → List (List V)) (n : Nat) : List V := (List.range n).map fun i => V.int ((L i).length : Nat)
/-- the sheet within stepped, and the list of numbers -/
structure StI (K : PySem.W.Frag) (cs : List (Addr × Addr)) (S : Addr) (H : Hp) (sh rl dl st m : Addr) (rows : List (List Str)) (gap least : Int) (len : Nat) (nums : List V) (H' : Hp) : Prop where
  ex : Ex cs H H'
  nsh : H sh = none
  nm : H m = none
  nrl : H rl = none
  ndl : H dl = none
  mr : m ≠ rl
  md : m ≠ dl
  ms : m ≠ sh
  sht : ∃ as ts ps av, ShtD K S H' sh rl dl st as rows gap least ts ps av ∧ ps.length ≤ len ∧ av m
  mm : H' m = some (.lst nums)
def spStepped (K : PySem.W.Frag) (cs : List (Addr × Addr)) (R : Addr) : Sp := fun vs H Q E => ∃ (pg st sl : Addr) (as : List Addr) (rows : List (List Str)) (gap least : Int) (xs : List V) (ds : List Deed) (Rr : Nat → List (List Str)) (L : Nat → List (List V)),
  vs = [.ref pg, .ref st, .ref sl] ∧ Tabs cs H ∧ PageAt K H pg as rows ∧ PgOk rows ∧ StyleAt K H st gap least ∧ SqL K H sl xs ∧ AllS H xs ∧ GoodD K H xs ds ∧ RunR gap least ds Rr L ∧ Rr 0 = rows ∧ ds.length ≤ xs.length ∧ xs.length ≤ 100 ∧
  xs.length = ds.length ∧ ∀ (q r m : Addr) (as' : List Addr) (H' : Hp), Ex cs H H' → H q = none → H r = none → H m = none → r ≠ m → H' q = some (.tup [.ref r, .ref m]) → H' r = some (.lst (as'.map V.ref)) → RowsAt K H' as' (Rr ds.length) → H' m = some (.lst (numsL L ds.length)) → Q (.ref q) H'
abbrev nmStp : List Str := ["page", "style", "steps", "sheet", "many", "step"]
theorem sc_stepped : FnScope nmStp ["page", "style", "steps"] (defScope s_stepped) := ⟨rfl, rfl, rfl, by decide +kernel, rfl, by decide +kernel, by decide +kernel⟩
theorem same_ex {H H' : Hp} (x : Same H H') (old : ∀ b, H' b = none → H b = none) (t : Tabs cs H) : Ex cs H H' := ⟨fun b o h _ => x b o h, fun p hp => by
  obtain ⟨ps, h1, h2⟩ := t p hp
  exact ⟨ps, x _ _ h1, h2⟩, old, fun b o h _ => x b o h⟩
theorem same_mk {H : Hp} {x dx : Addr} {o o' : HO} (nx : H x = none) (ndx : H dx = none) : Same H (upd (upd H dx o) x o') := fun c u h => by rw [upd_ne (ne_of_none h nx), upd_ne (ne_of_none h ndx)]; exact h
theorem made_sh {H : Hp} {Qf : VK} {E : XK} {pg st sh dx : Addr} {as : List Addr} {rows : List (List Str)} {gap least : Int} (hT : Tabs cs H) (hP : PageAt K H pg as rows) (hO : PgOk rows) (hS : StyleAt K H st gap least) (nsh : H sh = none) (ndx : H dx = none)
    (k : ∀ (rl dl : Addr) (H' : Hp), Ex cs H H' → H rl = none → H dl = none → ShtD K S H' sh rl dl st as rows gap least [] [] (fun _ => False) → Qf .non H') :
    spShInit K cs S [.ref sh, .ref pg, .ref st] (upd (upd H dx (.own sh)) sh (.ins S dx [])) Qf E := by
  have y := same_ex (same_mk (o := .own sh) (o' := .ins S dx []) nsh ndx) (fun b hb => by
    obtain ⟨h1, _⟩ := Gx.upd_none hb
    obtain ⟨h2, _⟩ := Gx.upd_none h1
    exact h2) hT
  refine ⟨sh, pg, st, dx, as, rows, gap, least, rfl, y.tab, upd_same, hP.ex y, hO, hS.gwN y.ext, fun rl dl H2 kp t2 old2 sht nrl ndl => ?_⟩
  exact k rl dl H2 (ex_but (A := fun c => c = sh) y (fun c e => by rw [e]; exact nsh) (fun b o h n m => kp b o h n m) t2 old2) (y.old _ nrl) (y.old _ ndl) sht
theorem ok_stepped {f gC gk gg gq : Addr} {fd fdC fdk fdg fdq : FuncData} (T : Txt mg) (X : ShC K S) (F : Fun K "stepped" "stepped" s_stepped f fd)
    (MC : Mk K S gC) (GC : FnOk P w K mg base CX0 12 gC fdC ["self", "page", "style"] (spShInit K cs S)) (bC : Binds K fdC ["self", "page", "style"] []) (mC : mg "Sheet" = some (.ref S))
    (Gk : FnOk P w K mg base CX0 3 gk fdk ["steps"] (spSteps K cs)) (kk : PySem.W.keepIn K (.ref gk) = true) (bk : Binds K fdk ["steps"] []) (mk : mg "check_steps" = some (.ref gk))
    (Gg : FnOk P w K mg base (L2.CX P w) 18 gg fdg ["sheet", "step"] (spGone K cs S R C)) (kg : PySem.W.keepIn K (.ref gg) = true) (bg : Binds K fdg ["sheet", "step"] []) (mg_ : mg "gone" = some (.ref gg))
    (Mq : Meth K S "page" gq) (Gq : FnOk P w K mg base CX0 1 gq fdq ["self"] (spShPage K S)) (bq : Binds K fdq ["self"] []) :
    FnOk P w K mg base (L2.CX P w) 19 f fd ["page", "style", "steps"] (spStepped K cs R) := by
  refine F.okX sc_stepped (fun vs H Q E h => ?_) (fun cdv A outer s H vs Q E hr h => ?_)
  · obtain ⟨pg, st, sl, _, _, _, _, _, _, _, _, rfl, _⟩ := h
    rfl
  · obtain ⟨pg, st, sl, as, rows, gap, least, xs, ds, Rr, L, rfl, hT, hP, hO, hS, hL, hA, hG, hR, h0, hle, h100, elen, k⟩ := h
    have nd := sc_stepped.nd
    have r1 : Room 1 _ := hr.mono (by decide)
    have r3 : Room 3 _ := hr.mono (by decide)
    have r13 : Room 13 _ := hr.mono (by decide)
    have szl : (9000 : Nat) < sizeLine := by decide
    refine ⟨_, (pss_cons (ps_set (i := 3) nd rfl (.inl rfl) (pe_make MC GC r13 (by rfl) mC bC .nil pass0 (pa_cons (pv 0) (pa_cons (pv 1) pa_nil))))
      (pss_cons (ps_expr (pe_call Gk r3 (by rfl) mk kk bk .nil pass0 (pa_cons (pv 2) pa_nil)))
      (pss_cons (ps_set (i := 4) nd rfl (.inl rfl) (pe_lst pa_nil))
      (pss_cons (ps_for (passes_of rfl) rfl (pi_list (pv 2)) (pg_name (i := 5) nd rfl (.inl rfl))
      (pss_one (ps_expr (pe_bm PySem.F.plainAttrs_list PySem.F.slot_list_append PySem.F.type_list_append mt_append (pv 4) (pa_cons (pe_callB call_len_seq (by rfl) T.len PySem.boot_len (pa_cons (pe_callS Gg hr (by rfl) mg_ kg bg (fun σ => passAt (takes_of rfl rfl rfl rfl) σ) (pa_cons (pv 3) (pa_cons (pv 5) pa_nil))) pa_nil)) pa_nil)))))
      (pss_one (ps_ret (pe_tup (pa_cons (pe_meth0 (pv 3) X.cS Mq Gq r1 bq .nil pass0) (pa_cons (pv 4) pa_nil))))))))), ?_⟩
    refine ⟨_, rfl, _, rfl, fun sh dx nsh ndx nn => ?_⟩
    refine made_sh hT hP hO hS nsh ndx fun rl dl H1 x1 nrl ndl sht => ⟨rfl, ?_⟩
    clear ndx nn
    refine ⟨_, rfl, sl, xs, rfl, x1.tab, x1.sqL hL, fun v hv => (hA v hv).gw x1.ext, fun H2 x2 => ?_⟩
    refine ⟨small0, fun m nm => ?_⟩
    have x3 := x1.trans x2
    have sht := sht.gw x2.ext
    have x4 := x3.trans (Ex.laid (o := .lst []) x3.tab nm)
    obtain ⟨m1, m2⟩ := sht.nnew nm
    obtain ⟨dx0, hsh0⟩ := sht.she
    have m3 : m ≠ sh := fun e => by rw [e, hsh0] at nm; cases nm
    have sht := sht.new nm (Ex.laid (o := .lst []) x3.tab nm).ext upd_same
    have st0 : StI K cs S H sh rl dl st m (Rr 0) gap least 0 (numsL L 0) (upd H2 m (.lst [])) := ⟨x4, nsh, x3.old _ nm, nrl, ndl, m1, m2, m3, ⟨as, [], [], (fun y => False ∨ y = m), by rw [h0]; exact sht, Nat.le_refl _, Or.inr rfl⟩, upd_same⟩
    generalize upd H2 m (.lst []) = H3 at st0 ⊢
    clear x1 x2 x3 x4 sht nsh nm nrl ndl m1 m2 m3 hsh0
    refine ⟨_, rfl, sl, rfl, ⟨_, st0.ex.sqL hL⟩, for_list (xs := xs) (fun i σ H' => i ≤ ds.length ∧ ∃ c : Option V, σ = [some (.ref pg), some (.ref st), some (.ref sl), some (.ref sh), some (.ref m), c] ∧ StI K cs S H sh rl dl st m (Rr i) gap least i (numsL L i) H')
      ⟨Nat.zero_le _, _, rfl, st0⟩ (fun i σ H' _ p => by
        obtain ⟨_, c, _, o⟩ := p
        exact o.ex.sqL hL) ?_ ?_⟩
    · clear st0
      intro i x σ H4 hx ⟨hi, c, e, o⟩
      subst e
      obtain ⟨as4, ts4, ps4, av4, sht, hpl, hav⟩ := o.sht
      obtain ⟨dx4, h1⟩ := sht.she
      have hxl := (List.getElem?_eq_some_iff.mp hx).1
      by_cases hd : i < ds.length
      · obtain ⟨t, ht, hv⟩ := hG i _ (List.getElem?_eq_getElem hd)
        rw [hx] at ht
        cases ht
        obtain ⟨ok1, ok2⟩ := hR i _ (List.getElem?_eq_getElem hd)
        refine ⟨_, rfl, .inl ⟨rfl, _, SqL.of o.mm⟩, _, rfl, _, rfl, sh, t, ds[i], rfl, hv.gw o.ex.ext, rl, dl, st, as4, Rr i, gap, least, ts4, ps4, av4, o.ex.tab, sht, by omega, ok1, fun rows' l e D H5 dn => ?_, fun e => ?_⟩
        · rw [ok2] at e
          cases e
          obtain ⟨as5, ts5, sht5⟩ := dn.sht
          obtain ⟨tds, hD, hDl, _⟩ := dn.told.ts
          have hm5 : H5 m = some (.lst (numsL L i)) := dn.ext _ _ o.mm (.inl fun ps z => nomatch z) o.mr o.md
          have x5 : Ex cs H H5 := ex_but (A := fun c => c = rl ∨ c = dl) o.ex (fun c z => z.elim (fun e => e ▸ o.nrl) fun e => e ▸ o.ndl) (fun b o' h n z => dn.ext b o' h n (fun e => z (.inl e)) fun e => z (.inr e)) dn.tab dn.old
          refine ⟨D, _, rfl, .inl (SqL.of hD), m, _, _, rfl, rfl, hm5, by rw [List.length_map, List.length_range]; omega, ?_⟩
          obtain ⟨dx5, hsh5⟩ := sht5.she
          have en : numsL L i ++ [V.int ((tds.map V.ref).length : Nat)] = numsL L (i + 1) := by
            unfold numsL
            rw [List.range_succ, List.map_append, List.length_map, hDl]
            rfl
          rw [en]
          refine ⟨by omega, _, rfl, ex_new hT x5 o.nm, o.nsh, o.nm, o.nrl, o.ndl, o.mr, o.md, o.ms, ⟨as5, ts5, _, _, sht5.km (A := fun c => c = m) upd_km (fun c e => .inl ⟨_, e ▸ hm5⟩) (fun c e => .inl ⟨numsL L (i + 1), by rw [show c = m from e]; exact upd_same⟩) (fun c us e _ => .inl (e ▸ hav)) (fun e => o.ms e.symm) (fun e => o.mr e.symm) (fun e => o.md e.symm), by rw [List.length_cons]; omega, .inl hav⟩, upd_same⟩
        · rw [ok2] at e
          cases e
      · have ei : i = ds.length := by omega
        omega
    · clear st0
      intro σ H4 ⟨hi, c, e, o⟩
      subst e
      obtain ⟨as4, ts4, ps4, av4, sht, hpl, hav⟩ := o.sht
      obtain ⟨dx4, h1⟩ := sht.she
      rw [elen] at sht o
      refine ⟨_, rfl, sh, dx4, _, rfl, h1, rfl, sh, rl, dl, st, as4, _, gap, least, ts4, ps4, av4, rfl, sht, fun r nr => ⟨_, rfl, by show 2 ≤ sizeLine; decide, fun q nq => ?_⟩⟩
      have x5 := o.ex.trans (Ex.laid (o := .lst (as4.map V.ref)) o.ex.tab nr)
      have nrm : r ≠ m := fun z => by rw [z, o.mm] at nr; cases nr
      have nqr : q ≠ r := fun z => by rw [z, upd_same] at nq; cases nq
      have nqm : q ≠ m := fun z => by rw [z, upd_ne nrm.symm, o.mm] at nq; cases nq
      have x6 := x5.trans (Ex.laid (o := .tup [V.ref r, V.ref m]) x5.tab nq)
      refine k q r m as4 _ x6 (x5.old _ nq) (o.ex.old _ nr) o.nm nrm upd_same (by rw [upd_ne nqr.symm]; exact upd_same) ?_ (by rw [upd_ne nqm.symm, upd_ne nrm.symm]; exact o.mm)
      exact (sht.at_.gw (Ex.laid (o := .lst (as4.map V.ref)) o.ex.tab nr).ext).gw (Ex.laid (o := .tup [V.ref r, V.ref m]) x5.tab nq).ext
end
end TGK

namespace L2
open PySem PySem.Spec PyProof.Rows
/-! ### min(xs, key=len, default=d), xs a list of lists -/
abbrev bestLen (f : Nat → Nat) (n : Nat) : Nat := argBest (fun i j => decide (((f i : Nat) : Int) < ((f j : Nat) : Int))) (n - 1)
theorem bestLen_first (f : Nat → Nat) {n : Nat} (hn : 0 < n) : bestLen f n < n ∧ ∀ j, j < n → f (bestLen f n) ≤ f j ∧ (j < bestLen f n → f (bestLen f n) < f j) := by
  have key : ∀ k, argBest (fun i j => decide (((f i : Nat) : Int) < ((f j : Nat) : Int))) k ≤ k ∧ ∀ j, j ≤ k → f (argBest (fun i j => decide (((f i : Nat) : Int) < ((f j : Nat) : Int))) k) ≤ f j ∧ (j < argBest (fun i j => decide (((f i : Nat) : Int) < ((f j : Nat) : Int))) k → f (argBest (fun i j => decide (((f i : Nat) : Int) < ((f j : Nat) : Int))) k) < f j) := by
    intro k
    induction k with
    | zero =>
      refine ⟨Nat.le_refl _, fun j hj => ?_⟩
      have e : j = 0 := by omega
      subst e
      exact ⟨Nat.le_refl _, fun h => absurd h (Nat.not_lt_zero 0)⟩
    | succ k ih =>
      obtain ⟨h1, h2⟩ := ih
      have e : argBest (fun i j => decide (((f i : Nat) : Int) < ((f j : Nat) : Int))) (k + 1) = if decide (((f (k + 1) : Nat) : Int) < ((f (argBest (fun i j => decide (((f i : Nat) : Int) < ((f j : Nat) : Int))) k) : Nat) : Int)) = true then k + 1 else argBest (fun i j => decide (((f i : Nat) : Int) < ((f j : Nat) : Int))) k := rfl
      rw [e]
      generalize argBest (fun i j => decide (((f i : Nat) : Int) < ((f j : Nat) : Int))) k = a at h1 h2 ⊢
      by_cases c : ((f (k + 1) : Nat) : Int) < ((f a : Nat) : Int)
      · rw [decide_eq_true c, if_pos rfl]
        refine ⟨Nat.le_refl _, fun j hj => ?_⟩
        by_cases q : j = k + 1
        · subst q
          exact ⟨Nat.le_refl _, fun h => absurd h (Nat.lt_irrefl _)⟩
        · have := (h2 j (by omega)).1
          exact ⟨by omega, fun _ => by omega⟩
      · rw [decide_eq_false c, if_neg (by simp)]
        refine ⟨by omega, fun j hj => ?_⟩
        by_cases q : j = k + 1
        · subst q
          exact ⟨by omega, fun h => by omega⟩
        · exact h2 j (by omega)
  obtain ⟨h1, h2⟩ := key (n - 1)
  exact ⟨by unfold bestLen; omega, fun j hj => h2 j (by omega)⟩
section
variable {prog : Program} {w : World} {A : Around} {E : Value → Shared → Prop} {s : Shared}
theorem min_len_raw {l : Addr} {its : List Value} {d : Value} {Q : Value → Shared → Prop} (hh : A.handled = none) (hl : s.heap.IsList l its.toArray) (lens : Nat → Nat) (hb : ∀ (i : Nat) (v : Value), its[i]? = some v → ∃ (b : Addr) (items : Array Value), v = .ref b ∧ s.heap.IsList b items ∧ items.size = lens i ∧ (items.size : Int) < 2 ^ 63)
    (h0 : its.length = 0 → ∀ h' tk, (∀ b o, s.heap.get? b = some o → h'.get? b = some o) → Q d { s with heap := h', toks := tk })
    (h1 : 0 < its.length → ∀ v h' tk, its[bestLen lens its.length]? = some v → (∀ b o, s.heap.get? b = some o → h'.get? b = some o) → Q v { s with heap := h', toks := tk }) :
    wpAny (model prog w) A (call (.builtin "min") [.ref l] [(Str.ofString "key", .builtin "len"), (Str.ofString "default", d)]) Q E s := by
  have hlt : l < s.heap.objs.size := by obtain ⟨_, e, _⟩ := hl; exact Heap.lt_size e
  refine call_min_walkKBD (wpAny_pyIter_list hl ?_)
  have hsz : its.toArray.size = its.length := List.size_toArray ..
  refine ⟨s.heap.objs.size, [s.heap.objs.size, l], [s.heap.objs.size], _, its.toArray.size, _, _, fun s' => ∃ h' tk, s' = { s with heap := h', toks := tk } ∧ ∀ b o, s.heap.get? b = some o → h'.get? b = some o, fun i k _ => ∃ t, k = .int ((lens i : Nat) : Int) t, fun i j => decide (((lens i : Nat) : Int) < ((lens j : Nat) : Int)), rfl,
    (Walks.list (A := A.in1) hh _ l (Nat.ne_of_lt hlt) its.toArray).toS, ⟨⟨_, Heap.get?_push_size _ rfl, rfl, rfl⟩, hl.push _⟩, fun b hb' => ?_, ⟨fun s1 s2 hJ hm => ?_, fun i k s1 s2 hV _ => hV, fun i v s1 o Q E hi hP hJ hst hS k => ?_, fun i j ki kj s1 Q E _ hi hj q => ?_⟩, ⟨_, s.toks, rfl, fun b o e => Heap.get?_push_of_some _ e⟩, fun hn s' hJ => ?_, fun hn v s' hP hJ => ?_⟩
  · show b < (s.heap.push _).objs.size
    rw [Heap.size_push]
    rcases List.mem_cons.mp hb' with rfl | hb'
    · exact Nat.lt_succ_self _
    · rw [List.mem_singleton.mp hb']
      exact Nat.lt_succ_of_lt hlt
  · obtain ⟨h', tk, rfl, hk⟩ := hJ
    refine ⟨s2.heap, s2.toks, ?_, fun b o e => hm.heap b o (fun hb' => ?_) (hk b o e)⟩
    · have e1 := hm.gens
      have e2 := hm.drawn
      have e3 := hm.os
      cases s2
      simp only at e1 e2 e3
      rw [e1, e2, e3]
    · have lb := Heap.lt_size e
      rcases List.mem_cons.mp hb' with z | z
      · have : b = (s.heap.push ({ cls := .type "list_iterator", data := .fields #[.ref l, .int 0 0] } : Obj)).objs.size := z
        rw [Heap.size_push] at this
        rw [this] at lb
        exact absurd (Nat.lt_of_succ_lt lb) (Nat.lt_irrefl _)
      · rw [List.mem_singleton] at z
        rw [z] at lb
        exact absurd lb (Nat.lt_irrefl _)
  · obtain ⟨h', tk, rfl, hk⟩ := hJ
    have hv : its[i]? = some v := by simpa using hP
    obtain ⟨b, items, rfl, hL, hs, hf⟩ := hb i v hv
    have hL' : Heap.IsList h' b items := by
      obtain ⟨o, e, r⟩ := hL
      exact ⟨o, hk b o e, r⟩
    refine PySem.Calls.call_len_list (s := { s with heap := h', toks := tk }) hL' hf ?_
    rw [hs]
    exact k _ _ ⟨h', _, rfl, hk⟩ hst hS ⟨_, rfl⟩ fun j k' hV => hV
  · exact CmpOf.ints_lt (prog := prog) (w := w) (A := A.in1) (P := fun i v => ∃ t, v = .int ((lens i : Nat) : Int) t) (fun i => ((lens i : Nat) : Int)) (fun i v h => h) i j ki kj s1 Q E hi hj q
  · obtain ⟨h', tk, rfl, hk⟩ := hJ
    exact h0 (by rw [← hsz]; exact hn) h' tk hk
  · obtain ⟨h', tk, rfl, hk⟩ := hJ
    rw [hsz] at hn hP
    have hP : its.toArray[bestLen lens its.length]? = some v := hP
    rw [List.getElem?_toArray] at hP
    exact h1 hn v h' tk hP hk
end
section
variable {X : Cx}
def rMinLen (K : PySem.W.Frag) (Q : VK) (x d : V) (H : Hp) : Prop := ∃ (a : Addr) (bs : List Addr) (lens : Nat → Nat), x = .ref a ∧ SqL K H a (bs.map V.ref) ∧ (∀ (i : Nat) (b : Addr), bs[i]? = some b → ∃ xs, SqL K H b xs ∧ xs.length = lens i) ∧
  (bs.length = 0 → Q d H) ∧ (0 < bs.length → ∀ b, bs[bestLen lens bs.length]? = some b → Q (.ref b) H)
def tMinLen (K : PySem.W.Frag) (ta td : TE) : TE := fun σ H Q => ta σ H fun x H1 => td σ H1 fun d H2 => rMinLen K Q x d H2
theorem pe_minLen {p p1 q1' q2 pos : Pos} {e d : Expr} {ta td : TE} (hc : X.calm = true) (hg : Gl X "min") (hm : X.mg "min" = none) (hg2 : Gl X "len") (hm2 : X.mg "len" = none) (ha : PE X e ta) (hd : PE X d td)
    (hs : starEach [e] X.env = (false, eval e X.env) :: starEach [] X.env := by rfl) (he : backTo pos (starEach [e] X.env) = [(false, eval e X.env)] := by rfl) (hpl : (backTo pos (starEach [e] X.env)).any (·.1) = false := by rfl) :
    PE X (.Call (.Name "min" p) [e] [⟨some (Str.ofString "key"), .Name "len" p1, q1'⟩, ⟨some (Str.ofString "default"), d, q2⟩] pos) (tMinLen X.K ta td) := by
  refine ⟨fun pins s σ H Q I h => ?_⟩
  refine wpAny_Call_Name_kw (ld_blt I hg hm (show bootBuiltins (Str.ofString "min") = some (.builtin "min") by decide +kernel) ?_ (by decide) (by decide))
  have h2 : tCons ta tNil σ H (fun vs H1 => match vs with | [x] => td σ H1 (fun d H2 => rMinLen X.K Q x d H2) | _ => False) := h
  refine PyProof.Rows.callWith_kw (thn ((pa_cons (hs := hs) ha pa_nil).run pos pins s σ H _ I h2) fun us s1 ⟨vs, H1, I1, r1, q1⟩ => ?_) he hpl (by rfl) (by rfl)
  obtain ⟨x, rfl⟩ : ∃ x, vs = [x] := by
    cases vs with
    | nil => exact False.elim q1
    | cons x r =>
      cases r with
      | nil => exact ⟨x, rfl⟩
      | cons _ _ => exact False.elim q1
  obtain ⟨u, rfl, rx⟩ := vals1 r1
  have q1 : td σ H1 (fun d H2 => rMinLen X.K Q x d H2) := q1
  have ek : (backToKw pos (keywordEach [⟨some (Str.ofString "key"), .Name "len" p1, q1'⟩, ⟨some (Str.ofString "default"), d, q2⟩] X.env)).map (·.2) = [(do let v ← eval (.Name "len" p1) X.env; standAt pos; pure v), (do let v ← eval d X.env; standAt pos; pure v)] := by rfl
  have en : (backToKw pos (keywordEach [⟨some (Str.ofString "key"), .Name "len" p1, q1'⟩, ⟨some (Str.ofString "default"), d, q2⟩] X.env)).filterMap (·.1) = [Str.ofString "key", Str.ofString "default"] := by rfl
  rw [ek, en]
  refine wpAny_evalAll_cons (wpAny_bind (ld_blt I1 hg2 hm2 (show bootBuiltins (Str.ofString "len") = some (.builtin "len") by decide +kernel) (wpAny_bind (wpAny_standAt (wpAny_pure ?_))) (by decide) (by decide)))
  refine wpAny_evalAll_cons (wpAny_bind (thn (hd.run pins s1 σ H1 _ I1 q1) fun w s2 ⟨dv, H2, I2, r2, q2⟩ => wpAny_bind (wpAny_standAt (wpAny_pure (wpAny_evalAll_nil ?_)))))
  obtain ⟨a, bs, lens, rfl, hs, hb, h0, h1⟩ := q2
  obtain rfl : u = Value.ref a := rx
  obtain ⟨its, rv, hl, hz⟩ := I2.list hs
  have hlen : its.length = bs.length := by rw [← rv.length, List.length_map]
  have item : ∀ (i : Nat) (v : Value), its[i]? = some v → ∃ b, bs[i]? = some b ∧ v = .ref b := fun i v e => by
    have hi := (List.getElem?_eq_some_iff.mp e).1
    obtain ⟨b, hb'⟩ : ∃ b, bs[i]? = some b := ⟨bs[i]'(by omega), List.getElem?_eq_getElem (by omega)⟩
    obtain ⟨v', e', r'⟩ := rv.get (i := i) (x := .ref b) (by rw [List.getElem?_map, hb']; rfl)
    rw [e] at e'
    cases e'
    exact ⟨b, hb', r'⟩
  show wpAny _ _ (call (.builtin "min") [.ref a] [(Str.ofString "key", .builtin "len"), (Str.ofString "default", w)]) _ _ s2
  refine min_len_raw (I2.ok.hd hc) hl.isList lens (fun i v e => ?_) (fun hn h' tk hk => ?_) (fun hn v h' tk e hk => ?_)
  · obtain ⟨b, hb', rfl⟩ := item i v e
    obtain ⟨xs, hx, lx⟩ := hb i b hb'
    obtain ⟨its2, rv2, hl2, hz2⟩ := I2.list hx
    have l2 : its2.toArray.size = xs.length := by rw [List.size_toArray, ← rv2.length]
    refine ⟨b, its2.toArray, rfl, hl2.isList, by rw [l2, lx], ?_⟩
    rw [l2]
    rw [sizeLine_eq] at hz2
    omega
  · exact ⟨dv, H2, I2.kept hk, r2, h0 (by omega)⟩
  · obtain ⟨b, hb', rfl⟩ := item _ v e
    rw [hlen] at hb' hn
    exact ⟨.ref b, H2, I2.kept hk, rfl, h1 hn b hb'⟩
end
end L2

namespace RT
open PySem L2
/-! ### the fewest steps -/
abbrev Row := List Str
inductive Stp where
  | change (n : Nat)
  | put (n : Nat)
  | take (n : Nat)
/-- the first of the shortest -/
def pickS (l : List (List Stp)) : List Stp := l.getD (bestLen (fun i => (l.getD i []).length) l.length) []
open Classical in
noncomputable def plan : List Row → List Row → Nat → List Stp
  | [], [], _ => []
  | [], _ :: o, j => .put j :: plan [] o (j + 1)
  | _ :: p, [], j => .take j :: plan p [] j
  | a :: p, b :: o, j => pickS ((if a = b then [plan p o (j + 1)] else []) ++ [.change j :: plan p o (j + 1), .put j :: plan (a :: p) o (j + 1), .take j :: plan p (b :: o) j])
termination_by p o => p.length + o.length
open Classical in
noncomputable def ed : List Row → List Row → Nat
  | [], o => o.length
  | a :: p, [] => (a :: p).length
  | a :: p, b :: o => min ((if a = b then 0 else 1) + ed p o) (1 + min (ed (a :: p) o) (ed p (b :: o)))
termination_by p o => p.length + o.length
theorem ed_nil (o : List Row) : ed [] o = o.length := by rw [ed]
theorem ed_nil2 (p : List Row) : ed p [] = p.length := by
  cases p with
  | nil => rw [ed]
  | cons a p => rw [ed]
open Classical in
theorem ed_cons (a b : Row) (p o : List Row) : ed (a :: p) (b :: o) = min ((if a = b then 0 else 1) + ed p o) (1 + min (ed (a :: p) o) (ed p (b :: o))) := by rw [ed]
theorem pick_mem {l : List (List Stp)} (h : l ≠ []) : pickS l ∈ l := by
  have hp := List.length_pos_iff.mpr h
  obtain ⟨h1, _⟩ := bestLen_first (fun i => (l.getD i []).length) hp
  unfold pickS
  rw [List.getD_eq_getElem?_getD, List.getElem?_eq_getElem h1]
  exact List.getElem_mem h1
theorem pick_le {l : List (List Stp)} {x : List Stp} (h : x ∈ l) : (pickS l).length ≤ x.length := by
  obtain ⟨j, hj, rfl⟩ := List.mem_iff_getElem.mp h
  obtain ⟨_, h2⟩ := bestLen_first (fun i => (l.getD i []).length) (Nat.lt_of_le_of_lt (Nat.zero_le _) hj)
  have := (h2 j hj).1
  have e : l.getD j [] = l[j] := by rw [List.getD_eq_getElem?_getD, List.getElem?_eq_getElem hj]; rfl
  unfold pickS
  rw [e] at this
  exact this
open Classical in
theorem plan_cons (a b : Row) (p o : List Row) (j : Nat) : plan (a :: p) (b :: o) j = pickS ((if a = b then [plan p o (j + 1)] else []) ++ [.change j :: plan p o (j + 1), .put j :: plan (a :: p) o (j + 1), .take j :: plan p (b :: o) j]) := by rw [plan]
theorem plan_len : ∀ (n : Nat) (p o : List Row) (j : Nat), p.length + o.length ≤ n → (plan p o j).length = ed p o
  | _, [], [], _, _ => by rw [plan, ed_nil]; rfl
  | 0, [], _ :: _, _, h => by simp at h
  | n + 1, [], b :: o, j, h => by
    rw [plan, ed_nil, List.length_cons, plan_len n [] o (j + 1) (by simp at h ⊢; omega), ed_nil]
    rfl
  | 0, _ :: _, [], _, h => by simp at h
  | n + 1, a :: p, [], j, h => by
    rw [plan, ed_nil2, List.length_cons, plan_len n p [] j (by simp at h ⊢; omega), ed_nil2]
    rfl
  | 0, _ :: _, _ :: _, _, h => by simp at h
  | n + 1, a :: p, b :: o, j, h => by
    have l1 := plan_len n p o (j + 1) (by simp at h ⊢; omega)
    have l2 := plan_len n (a :: p) o (j + 1) (by simp at h ⊢; omega)
    have l3 := plan_len n p (b :: o) j (by simp at h ⊢; omega)
    rw [plan_cons, ed_cons]
    have hm := pick_mem (l := (if a = b then [plan p o (j + 1)] else []) ++ [.change j :: plan p o (j + 1), .put j :: plan (a :: p) o (j + 1), .take j :: plan p (b :: o) j]) (by simp)
    have h1 := pick_le (l := (if a = b then [plan p o (j + 1)] else []) ++ [.change j :: plan p o (j + 1), .put j :: plan (a :: p) o (j + 1), .take j :: plan p (b :: o) j]) (x := .change j :: plan p o (j + 1)) (by simp)
    have h2 := pick_le (l := (if a = b then [plan p o (j + 1)] else []) ++ [.change j :: plan p o (j + 1), .put j :: plan (a :: p) o (j + 1), .take j :: plan p (b :: o) j]) (x := .put j :: plan (a :: p) o (j + 1)) (by simp)
    have h3 := pick_le (l := (if a = b then [plan p o (j + 1)] else []) ++ [.change j :: plan p o (j + 1), .put j :: plan (a :: p) o (j + 1), .take j :: plan p (b :: o) j]) (x := .take j :: plan p (b :: o) j) (by simp)
    rw [List.length_cons] at h1 h2 h3
    by_cases c : a = b
    · have h0 := pick_le (l := (if a = b then [plan p o (j + 1)] else []) ++ [.change j :: plan p o (j + 1), .put j :: plan (a :: p) o (j + 1), .take j :: plan p (b :: o) j]) (x := plan p o (j + 1)) (by simp [c])
      rw [if_pos c] at h0 h1 h2 h3 hm ⊢
      rw [if_pos c]
      generalize pickS _ = z at h0 h1 h2 h3 hm ⊢
      simp only [List.singleton_append, List.mem_cons, List.not_mem_nil, or_false] at hm
      rcases hm with e | e | e | e
      · rw [e] at h0 h1 h2 h3 ⊢; omega
      · rw [e, List.length_cons] at h0 h1 h2 h3 ⊢; omega
      · rw [e, List.length_cons] at h0 h1 h2 h3 ⊢; omega
      · rw [e, List.length_cons] at h0 h1 h2 h3 ⊢; omega
    · rw [if_neg c] at h1 h2 h3 hm ⊢
      rw [if_neg c]
      generalize pickS _ = z at h1 h2 h3 hm ⊢
      simp only [List.nil_append, List.mem_cons, List.not_mem_nil, or_false] at hm
      rcases hm with e | e | e
      · rw [e, List.length_cons] at h1 h2 h3 ⊢; omega
      · rw [e, List.length_cons] at h1 h2 h3 ⊢; omega
      · rw [e, List.length_cons] at h1 h2 h3 ⊢; omega
theorem ed_le : ∀ (n : Nat) (p o : List Row), p.length + o.length ≤ n → ed p o ≤ max p.length o.length ∧ p.length ≤ ed p o + o.length ∧ o.length ≤ ed p o + p.length
  | _, [], o, _ => by rw [ed_nil]; simp
  | _, a :: p, [], _ => by rw [ed_nil2]; simp
  | 0, _ :: _, _ :: _, h => by simp at h
  | n + 1, a :: p, b :: o, h => by
    have h1 := ed_le n p o (by simp at h ⊢; omega)
    have h2 := ed_le n (a :: p) o (by simp at h ⊢; omega)
    have h3 := ed_le n p (b :: o) (by simp at h ⊢; omega)
    rw [ed_cons]
    simp only [List.length_cons] at h1 h2 h3 ⊢
    have q : (if a = b then 0 else 1) ≤ 1 := by split <;> omega
    generalize (if a = b then 0 else 1) = s at q ⊢
    omega
theorem ed_symm : ∀ (n : Nat) (p o : List Row), p.length + o.length ≤ n → ed p o = ed o p
  | _, [], o, _ => by rw [ed_nil, ed_nil2]
  | _, a :: p, [], _ => by rw [ed_nil2, ed_nil]
  | 0, _ :: _, _ :: _, h => by simp at h
  | n + 1, a :: p, b :: o, h => by
    have h1 := ed_symm n p o (by simp at h ⊢; omega)
    have h2 := ed_symm n (a :: p) o (by simp at h ⊢; omega)
    have h3 := ed_symm n p (b :: o) (by simp at h ⊢; omega)
    rw [ed_cons, ed_cons, h1, h2, h3]
    have e : (if a = b then 0 else 1) = (if b = a then 0 else 1) := by
      by_cases c : a = b
      · rw [if_pos c, if_pos c.symm]
      · rw [if_neg c, if_neg fun z => c z.symm]
    rw [e]
    generalize (if b = a then 0 else 1) = s
    omega
theorem ed_self : ∀ p : List Row, ed p p = 0
  | [] => by rw [ed_nil]; rfl
  | a :: p => by
    rw [ed_cons, ed_self p, if_pos rfl]
    omega
theorem ed_zero : ∀ (n : Nat) (p o : List Row), p.length + o.length ≤ n → ed p o = 0 → p = o
  | _, [], o, _, e => by
    rw [ed_nil] at e
    exact (List.eq_nil_of_length_eq_zero e).symm
  | _, a :: p, [], _, e => by rw [ed_nil2] at e; simp at e
  | 0, _ :: _, _ :: _, h, _ => by simp at h
  | n + 1, a :: p, b :: o, h, e => by
    rw [ed_cons] at e
    by_cases c : a = b
    · rw [if_pos c] at e
      have := ed_zero n p o (by simp at h ⊢; omega) (by omega)
      rw [c, this]
    · rw [if_neg c] at e
      omega
theorem ed_tri : ∀ (n : Nat) (a b c : List Row), a.length + b.length + c.length ≤ n → ed a c ≤ ed a b + ed b c
  | _, [], b, c, _ => by
    rw [ed_nil, ed_nil]
    have := (ed_le _ b c (Nat.le_refl _)).2.2
    omega
  | _, x :: a, b, [], _ => by
    rw [ed_nil2, ed_nil2]
    exact (ed_le _ (x :: a) b (Nat.le_refl _)).2.1
  | _, x :: a, [], z :: c, _ => by
    rw [ed_nil2, ed_nil]
    have := (ed_le _ (x :: a) (z :: c) (Nat.le_refl _)).1
    omega
  | 0, _ :: _, _ :: _, _ :: _, h => by simp at h
  | n + 1, x :: a, y :: b, z :: c, h => by
    have t1 := ed_tri n a (y :: b) (z :: c) (by simp at h ⊢; omega)
    have t2 := ed_tri n (x :: a) (y :: b) c (by simp at h ⊢; omega)
    have t3 := ed_tri n (x :: a) b (z :: c) (by simp at h ⊢; omega)
    have t4 := ed_tri n (x :: a) b c (by simp at h ⊢; omega)
    have t5 := ed_tri n a b (z :: c) (by simp at h ⊢; omega)
    have t6 := ed_tri n a b c (by simp at h ⊢; omega)
    have e1 := ed_cons x y a b
    have e2 := ed_cons y z b c
    have e3 := ed_cons x z a c
    have s : (if x = z then 0 else 1) ≤ (if x = y then 0 else 1) + (if y = z then 0 else 1) := by
      by_cases c1 : x = y
      · by_cases c2 : y = z
        · rw [if_pos (c1.trans c2)]; omega
        · rw [if_neg c2]; split <;> omega
      · rw [if_neg c1]; split <;> omega
    generalize (if x = z then 0 else 1) = s1 at s e3
    generalize (if x = y then 0 else 1) = s2 at s e1
    generalize (if y = z then 0 else 1) = s3 at s e2
    omega
end RT

namespace TGK
open TG RT
open PySem PySem.Spec PyProof.Rows L2 NdefX GenW Gx Lv EnT
abbrev s_route : Stmt := top 43
abbrev s_ways : Stmt := top 44
/-! ### steps, ways in the heap -/
def StpA (H : Hp) (os : List Addr) (t : Addr) : Stp → Prop
  | .change n => ∃ q, os[n]? = some q ∧ H t = some (.tup [.str "change", .int (n : Nat), .ref q])
  | .put n => ∃ q, os[n]? = some q ∧ H t = some (.tup [.str "put", .int (n : Nat), .ref q])
  | .take n => H t = some (.tup [.str "take", .int (n : Nat)])
def StpsA (H : Hp) (os : List Addr) (D : Addr) (l : List Stp) : Prop := ∃ ts : List Addr, H D = some (.lst (ts.map V.ref)) ∧ ts.length = l.length ∧ ∀ (k : Nat) (t : Addr) (s : Stp), ts[k]? = some t → l[k]? = some s → StpA H os t s
/-- all but what stands at D stays, and no tuple stands there -/
structure Bt (D : Addr) (H H' : Hp) : Prop where
  kp : ∀ c o, H c = some o → c ≠ D → H' c = some o
  nt : ∀ xs, H D ≠ some (.tup xs)
theorem Bt.tup {D : Addr} {H H' : Hp} (x : Bt D H H') {t : Addr} {xs : List V} (h : H t = some (.tup xs)) : H' t = some (.tup xs) := x.kp _ _ h fun e => x.nt xs (e ▸ h)
theorem StpA.bt {D : Addr} {H H' : Hp} {os : List Addr} {t : Addr} {s : Stp} (x : Bt D H H') (h : StpA H os t s) : StpA H' os t s := by
  cases s with
  | change n =>
    obtain ⟨q, h1, h2⟩ := h
    exact ⟨q, h1, x.tup h2⟩
  | put n =>
    obtain ⟨q, h1, h2⟩ := h
    exact ⟨q, h1, x.tup h2⟩
  | take n => exact x.tup h
theorem StpsA.bt {D L : Addr} {H H' : Hp} {os : List Addr} {l : List Stp} (x : Bt D H H') (h : StpsA H os L l) (n : L ≠ D) : StpsA H' os L l := by
  obtain ⟨ts, h1, h2, h3⟩ := h
  exact ⟨ts, x.kp _ _ h1 n, h2, fun k t s e1 e2 => (h3 k t s e1 e2).bt x⟩
theorem bt_same {H H' : Hp} {D : Addr} (x : Same H H') (n : H D = none) : Bt D H H' := ⟨fun c o h _ => x c o h, fun xs h => by rw [n] at h; cases h⟩
theorem StpA.same {H H' : Hp} {os : List Addr} {t : Addr} {s : Stp} (x : Same H H') (h : StpA H os t s) : StpA H' os t s := by
  cases s with
  | change n =>
    obtain ⟨q, h1, h2⟩ := h
    exact ⟨q, h1, x _ _ h2⟩
  | put n =>
    obtain ⟨q, h1, h2⟩ := h
    exact ⟨q, h1, x _ _ h2⟩
  | take n => exact x _ _ h
theorem StpsA.same {L : Addr} {H H' : Hp} {os : List Addr} {l : List Stp} (x : Same H H') (h : StpsA H os L l) : StpsA H' os L l := by
  obtain ⟨ts, h1, h2, h3⟩ := h
  exact ⟨ts, x _ _ h1, h2, fun k t s e1 e2 => (h3 k t s e1 e2).same x⟩
theorem bt_upd {H : Hp} {D : Addr} {o : HO} (n : ∀ xs, H D ≠ some (.tup xs)) : Bt D H (upd H D o) := ⟨fun c u h e => by rw [upd_ne e]; exact h, n⟩
abbrev Opt := List Stp × Nat × Nat
def OptA (H : Hp) (os : List Addr) (D t : Addr) (o : Opt) : Prop := ∃ sl p, sl ≠ D ∧ H t = some (.tup [.ref sl, .ref p]) ∧ StpsA H os sl o.1 ∧ H p = some (.tup [.int (o.2.1 : Nat), .int (o.2.2 : Nat)])
theorem OptA.bt {D t : Addr} {H H' : Hp} {os : List Addr} {o : Opt} (x : Bt D H H') (h : OptA H os D t o) : OptA H' os D t o := by
  obtain ⟨sl, p, h1, h2, h3, h4⟩ := h
  exact ⟨sl, p, h1, x.tup h2, h3.bt x h1, x.tup h4⟩
theorem OptA.same {D t : Addr} {H H' : Hp} {os : List Addr} {o : Opt} (x : Same H H') (h : OptA H os D t o) : OptA H' os D t o := by
  obtain ⟨sl, p, h1, h2, h3, h4⟩ := h
  exact ⟨sl, p, h1, x _ _ h2, h3.same x, x _ _ h4⟩
structure OptL (H0 : Hp) (os : List Addr) (D : Addr) (l : List Opt) (H : Hp) : Prop where
  sm : Same H0 H
  nD : H0 D = none
  ts : ∃ ts : List Addr, H D = some (.lst (ts.map V.ref)) ∧ ts.length = l.length ∧ ∀ (k : Nat) (t : Addr) (o : Opt), ts[k]? = some t → l[k]? = some o → OptA H os D t o
theorem OptL.start {H0 : Hp} {os : List Addr} {D : Addr} (n : H0 D = none) : OptL H0 os D [] (upd H0 D (.lst [])) := ⟨same_new n, n, [], upd_same, rfl, fun j t v h => by cases h⟩
theorem OptL.more {H0 H H1 : Hp} {os : List Addr} {D t : Addr} {l : List Opt} {o : Opt} (ol : OptL H0 os D l H) (x : Same H H1) (ot : OptA H1 os D t o) :
    ∃ acc, H1 D = some (.lst acc) ∧ acc.length = l.length ∧ OptL H0 os D (l ++ [o]) (upd H1 D (.lst (acc ++ [.ref t]))) := by
  obtain ⟨ts, h1, h2, h3⟩ := ol.ts
  have hD := x _ _ h1
  have bt : Bt D H1 (upd H1 D (.lst (ts.map V.ref ++ [.ref t]))) := bt_upd fun xs h => by rw [hD] at h; cases h
  refine ⟨_, hD, by rw [List.length_map, h2], fun b u e => by rw [upd_ne (ne_of_none e ol.nD)]; exact x _ _ (ol.sm b u e), ol.nD, ts ++ [t], by rw [upd_same]; simp, by rw [List.length_append, List.length_append, h2]; rfl, fun j s u e1 e2 => ?_⟩
  by_cases hj : j < ts.length
  · rw [List.getElem?_append_left hj] at e1
    rw [List.getElem?_append_left (by rw [← h2]; exact hj)] at e2
    exact ((h3 j s u e1 e2).same x).bt bt
  · have hl := (List.getElem?_eq_some_iff.mp e1).1
    rw [List.length_append, List.length_singleton] at hl
    have ej : j = ts.length := by omega
    subst ej
    rw [List.getElem?_append_right (Nat.le_refl _), Nat.sub_self] at e1
    rw [h2, List.getElem?_append_right (Nat.le_refl _), Nat.sub_self] at e2
    cases e1
    cases e2
    exact ot.bt bt
/-- three new objects, one behind the other -/
theorem new3 {H : Hp} {a b c : Addr} {oa ob oc : HO} (na : H a = none) (nb : upd H a oa b = none) (nc : upd (upd H a oa) b ob c = none) :
    Same H (upd (upd (upd H a oa) b ob) c oc) ∧ upd (upd (upd H a oa) b ob) c oc a = some oa ∧ upd (upd (upd H a oa) b ob) c oc b = some ob ∧ upd (upd (upd H a oa) b ob) c oc c = some oc := by
  have s1 : Same H (upd H a oa) := same_new na
  have s2 : Same (upd H a oa) (upd (upd H a oa) b ob) := same_new nb
  have s3 : Same (upd (upd H a oa) b ob) (upd (upd (upd H a oa) b ob) c oc) := same_new nc
  exact ⟨same_trans s1 (same_trans s2 s3), s3 _ _ (s2 _ _ upd_same), s3 _ _ upd_same, upd_same⟩
theorem one_stp {H : Hp} {os : List Addr} {L t : Addr} {s : Stp} (h : H L = some (.lst [.ref t])) (a : StpA H os t s) : StpsA H os L [s] := ⟨[t], h, rfl, fun k t' s' e1 e2 => by
  cases k with
  | zero => cases e1; cases e2; exact a
  | succ k => cases e1⟩
def optsK (P O : List RT.Row) (i j : Nat) : List Opt :=
  (if i < P.length ∧ j < O.length then (if P.getD i [] = O.getD j [] then [([], i + 1, j + 1)] else []) ++ [([.change j], i + 1, j + 1)] else []) ++
  (if j < O.length then [([.put j], i, j + 1)] else []) ++ (if i < P.length then [([.take j], i + 1, j)] else [])
theorem eqv_strS : ∀ (x y : Str), PyData.eqv (.str x) (.str y) = decide (x = y) := fun x y => by
  simp only [PyData.eqv]
  by_cases h : x = y
  · rw [h, decide_eq_true rfl]; simp
  · rw [decide_eq_false h]; simp [h]
theorem eqvAll_strs : ∀ a b : List Str, PyData.eqvAll (a.map PyData.str) (b.map PyData.str) = decide (a = b)
  | [], [] => rfl
  | [], _ :: _ => rfl
  | _ :: _, [] => rfl
  | x :: a, y :: b => by
    rw [List.map_cons, List.map_cons]
    simp only [PyData.eqvAll, eqvAll_strs a b, eqv_strS]
    by_cases h1 : x = y <;> by_cases h2 : a = b <;> simp [h1, h2]
theorem eqv_row (a b : List Str) : PyData.eqv (.tuple (a.map .str)) (.tuple (b.map .str)) = decide (a = b) := by
  simp only [PyData.eqv, eqvAll_strs]
theorem shape_row {r : List Str} (h : RowOk r) : SeqAt.shaped (.tuple (r.map .str)) = true := by
  have c := canAll_strs (zs := r) fun z hz => (h.cells z hz).2
  unfold SeqAt.shaped
  simp only [PyData.canLay0, c, PyData.depth, depthAll_strs]
  rfl
theorem getD_get {l : List RT.Row} {i : Nat} (h : i < l.length) : l[i]? = some (l.getD i []) := by
  rw [List.getD_eq_getElem?_getD, List.getElem?_eq_getElem h]
  rfl
section
variable {P : Program} {w : World} {K : PySem.W.Frag} {mg : Str → Option Value} {base : Heap} {cs : List (Addr × Addr)}
def spWays (K : PySem.W.Frag) : Sp := fun vs H Q _ => ∃ (pg og : Addr) (as os : List Addr) (rp ro : List RT.Row) (i j : Nat), vs = [.ref pg, .ref og, .int (i : Nat), .int (j : Nat)] ∧ PageAt K H pg as rp ∧ PageAt K H og os ro ∧ PgOk rp ∧ PgOk ro ∧
  i ≤ rp.length ∧ j ≤ ro.length ∧ ∀ D H', OptL H os D (optsK rp ro i j) H' → Q (.ref D) H'
abbrev nmWays : List Str := ["page", "other", "here", "there", "found"]
theorem sc_ways : FnScope nmWays ["page", "other", "here", "there"] (defScope s_ways) := ⟨rfl, rfl, rfl, by decide +kernel, rfl, by decide +kernel, by decide +kernel⟩
theorem ok_ways {f : Addr} {fd : FuncData} (T : Txt mg) (F : Fun K "ways" "ways" s_ways f fd) : FnOk P w K mg base CX0 1 f fd ["page", "other", "here", "there"] (spWays K) := by
  refine F.ok sc_ways (fun vs H Q E h => ?_) (fun cdv A outer s H vs Q E hr h => ?_)
  · obtain ⟨pg, og, _, _, _, _, _, _, rfl, _⟩ := h
    rfl
  · obtain ⟨pg, og, as, os, rp, ro, i, j, rfl, hP, hO, gP, gO, hi, hj, k⟩ := h
    have nd := sc_ways.nd
    have hu := hr.units
    have lp : (as.map V.ref).length = rp.length := by rw [List.length_map, hP.len]
    have lo : (os.map V.ref).length = ro.length := by rw [List.length_map, hO.len]
    refine ⟨_, (pss_cons (ps_set (i := 4) nd rfl (.inl rfl) (pe_lst pa_nil))
      (pss_cons (ps_if (PW.pt (pw_and (pt_cmpR op_lt (pv 2) (pe_callB call_len_seq (by rfl) T.len PySem.boot_len (pa_cons (pv 0) pa_nil)) (nomark _)) (pw_and1 (pt_cmpR op_lt (pv 3) (pe_callB call_len_seq (by rfl) T.len PySem.boot_len (pa_cons (pv 1) pa_nil)) (nomark _))))) (pss_cons (ps_if (pt_cmpR (op_eqD hu) (pe_ix ix_list (pv 0) (pv 2) (fun _ _ => rfl)) (pe_ix ix_list (pv 1) (pv 3) (fun _ _ => rfl)) (nomark _)) (pss_one (ps_expr (pe_bm PySem.F.plainAttrs_list PySem.F.slot_list_append PySem.F.type_list_append mt_append (pv 4) (pa_cons (pe_tup (pa_cons (pe_lst pa_nil) (pa_cons (pe_tup (pa_cons (pe_op op_add (pv 2) pe_int) (pa_cons (pe_op op_add (pv 3) pe_int) pa_nil))) pa_nil))) pa_nil)))) pss_nil)
      (pss_one (ps_expr (pe_bm PySem.F.plainAttrs_list PySem.F.slot_list_append PySem.F.type_list_append mt_append (pv 4) (pa_cons (pe_tup (pa_cons (pe_lst (pa_cons (pe_tup (pa_cons pe_str (pa_cons (pv 3) (pa_cons (pe_ix ix_list (pv 1) (pv 3) (fun _ _ => rfl)) pa_nil)))) pa_nil)) (pa_cons (pe_tup (pa_cons (pe_op op_add (pv 2) pe_int) (pa_cons (pe_op op_add (pv 3) pe_int) pa_nil))) pa_nil))) pa_nil))))) pss_nil)
      (pss_cons (ps_if (pt_cmpR op_lt (pv 3) (pe_callB call_len_seq (by rfl) T.len PySem.boot_len (pa_cons (pv 1) pa_nil)) (nomark _)) (pss_one (ps_expr (pe_bm PySem.F.plainAttrs_list PySem.F.slot_list_append PySem.F.type_list_append mt_append (pv 4) (pa_cons (pe_tup (pa_cons (pe_lst (pa_cons (pe_tup (pa_cons pe_str (pa_cons (pv 3) (pa_cons (pe_ix ix_list (pv 1) (pv 3) (fun _ _ => rfl)) pa_nil)))) pa_nil)) (pa_cons (pe_tup (pa_cons (pv 2) (pa_cons (pe_op op_add (pv 3) pe_int) pa_nil))) pa_nil))) pa_nil)))) pss_nil)
      (pss_cons (ps_if (pt_cmpR op_lt (pv 2) (pe_callB call_len_seq (by rfl) T.len PySem.boot_len (pa_cons (pv 0) pa_nil)) (nomark _)) (pss_one (ps_expr (pe_bm PySem.F.plainAttrs_list PySem.F.slot_list_append PySem.F.type_list_append mt_append (pv 4) (pa_cons (pe_tup (pa_cons (pe_lst (pa_cons (pe_tup (pa_cons pe_str (pa_cons (pv 3) pa_nil))) pa_nil)) (pa_cons (pe_tup (pa_cons (pe_op op_add (pv 2) pe_int) (pa_cons (pv 3) pa_nil))) pa_nil))) pa_nil)))) pss_nil)
      (pss_one (ps_ret (pv 4))))))), ?_⟩
    refine ⟨small0, fun D nD => ?_⟩
    have ol := OptL.start (os := os) nD
    generalize upd H D (.lst []) = H1 at ol ⊢
    have lt9 : (9 : Nat) < sizeLine := by decide
    by_cases ci : i < rp.length
    · obtain ⟨qp, hpv0, hpr⟩ : ∃ q, as[i]? = some q ∧ SqT K H q (sV (rp.getD i [])) := ⟨as[i]'(by have := hP.len; omega), List.getElem?_eq_getElem _, hP.row i _ _ (List.getElem?_eq_getElem _) (getD_get ci)⟩
      have hpv : (as.map V.ref)[i]? = some (.ref qp) := by rw [List.getElem?_map, hpv0]; rfl
      have hpm : rp.getD i [] ∈ rp := List.mem_of_getElem? (getD_get ci)
      by_cases cj : j < ro.length
      · obtain ⟨q, hqv0, hqr⟩ : ∃ q, os[j]? = some q ∧ SqT K H q (sV (ro.getD j [])) := ⟨os[j]'(by have := hO.len; omega), List.getElem?_eq_getElem _, hO.row j _ _ (List.getElem?_eq_getElem _) (getD_get cj)⟩
        have hqv : (os.map V.ref)[j]? = some (.ref q) := by rw [List.getElem?_map, hqv0]; rfl
        have hqm : ro.getD j [] ∈ ro := List.mem_of_getElem? (getD_get cj)
        by_cases he : rp.getD i [] = ro.getD j []
        · have ek : optsK rp ro i j = [([], i + 1, j + 1), ([.change j], i + 1, j + 1), ([.put j], i, j + 1), ([.take j], i + 1, j)] := by unfold optsK; rw [if_pos ⟨ci, cj⟩, if_pos he, if_pos cj, if_pos ci]; rfl
          refine ⟨_, rfl, _, rfl, pg, _, rfl, .inl (same_sqL ol.sm hP.lst), _, _, rfl, rfl, true, dT (by rw [lp]; omega), iteT ⟨_, rfl, _, rfl, og, _, rfl, .inl (same_sqL ol.sm hO.lst), _, _, rfl, rfl, true, dT (by rw [lo]; omega), iteT ?_⟩⟩
          refine ⟨_, rfl, _, rfl, pg, _, ((i : Nat) : Int), .ref qp, rfl, rfl, same_sqL ol.sm hP.lst, atI_nat hpv, _, rfl, _, rfl, og, _, ((j : Nat) : Int), .ref q, rfl, rfl, same_sqL ol.sm hO.lst, atI_nat hqv, ?_⟩
          refine ⟨_, _, .tup (same_sqT ol.sm hpr) (dp_strs _), .tup (same_sqT ol.sm hqr) (dp_strs _), shape_row (gP.rows _ hpm), shape_row (gO.rows _ hqm), ?_⟩
          rw [eqv_row]
          refine ⟨true, dT he, iteT ?_⟩
          obtain ⟨ts, hD, _⟩ := ol.ts
          refine ⟨_, rfl, .inl ⟨rfl, _, SqL.of hD⟩, small0, fun L nL => ⟨_, rfl, _, _, rfl, rfl, _, rfl, _, _, rfl, rfl, by show 2 ≤ sizeLine; decide, fun T2 n2 => ⟨by show 2 ≤ sizeLine; decide, fun T3 n3 => ?_⟩⟩⟩
          have n3p := new3 (oa := .lst []) (ob := .tup [.int ((i + 1 : Nat)), .int ((j + 1 : Nat))]) (oc := .tup [.ref L, .ref T2]) nL n2 n3
          obtain ⟨sx, eL, e2, e3⟩ := n3p
          obtain ⟨acc, ha, hl, om⟩ := ol.more sx (o := ([], i + 1, j + 1)) ⟨L, T2, fun e => (by rw [e, hD] at nL; cases nL), e3, ⟨[], eL, rfl, fun k t s e => (by cases e)⟩, e2⟩
          refine ⟨D, acc, _, rfl, rfl, ha, by rw [hl]; simp only [List.nil_append, List.length_append, List.length_cons, List.length_nil]; omega, ?_⟩
          clear ol hD
          generalize hX : upd _ D _ = H9
          have ol : OptL H os D ([] ++ [([], i + 1, j + 1)]) H9 := by rw [← hX]; exact om
          clear hX om ha
          obtain ⟨ts, hD, _⟩ := ol.ts
          refine ⟨_, rfl, .inl ⟨rfl, _, SqL.of hD⟩, _, rfl, _, rfl, _, rfl, og, _, ((j : Nat) : Int), .ref q, rfl, rfl, same_sqL ol.sm hO.lst, atI_nat hqv, by show 3 ≤ sizeLine; decide, fun T1 n1 => ⟨by show 1 ≤ sizeLine; decide, fun L nL => ⟨_, rfl, _, _, rfl, rfl, _, rfl, _, _, rfl, rfl, by show 2 ≤ sizeLine; decide, fun T2 n2 => ⟨by show 2 ≤ sizeLine; decide, fun T3 n3 => ?_⟩⟩⟩⟩
          obtain ⟨sx, e1, eL, e2⟩ := new3 (oa := .tup [.str "change", .int (j : Nat), .ref q]) (ob := .lst [.ref T1]) (oc := .tup [.int ((i + 1 : Nat)), .int ((j + 1 : Nat))]) n1 nL n2
          have s3 := same_new (o := .tup [.ref L, .ref T2]) n3
          have nLD : L ≠ D := fun e => (by rw [e, same_new n1 _ _ hD] at nL; cases nL)
          obtain ⟨acc, ha, hl, om⟩ := ol.more (same_trans sx s3) (o := ([.change j], i + 1, j + 1)) ⟨L, T2, nLD, upd_same, one_stp (s := .change j) (s3 _ _ eL) ⟨q, hqv0, s3 _ _ e1⟩, s3 _ _ e2⟩
          refine ⟨D, acc, _, rfl, rfl, ha, by rw [hl]; simp only [List.nil_append, List.length_append, List.length_cons, List.length_nil]; omega, ?_⟩
          clear ol hD
          generalize hX : upd _ D _ = H9
          have ol : OptL H os D (([] ++ [([], i + 1, j + 1)]) ++ [([.change j], i + 1, j + 1)]) H9 := by rw [← hX]; exact om
          clear hX om ha
          refine ⟨_, rfl, _, rfl, og, _, rfl, .inl (same_sqL ol.sm hO.lst), _, _, rfl, rfl, true, dT (by rw [lo]; omega), iteT ?_⟩
          obtain ⟨ts, hD, _⟩ := ol.ts
          refine ⟨_, rfl, .inl ⟨rfl, _, SqL.of hD⟩, _, rfl, _, rfl, _, rfl, og, _, ((j : Nat) : Int), .ref q, rfl, rfl, same_sqL ol.sm hO.lst, atI_nat hqv, by show 3 ≤ sizeLine; decide, fun T1 n1 => ⟨by show 1 ≤ sizeLine; decide, fun L nL => ⟨_, rfl, _, rfl, _, _, rfl, rfl, by show 2 ≤ sizeLine; decide, fun T2 n2 => ⟨by show 2 ≤ sizeLine; decide, fun T3 n3 => ?_⟩⟩⟩⟩
          obtain ⟨sx, e1, eL, e2⟩ := new3 (oa := .tup [.str "put", .int (j : Nat), .ref q]) (ob := .lst [.ref T1]) (oc := .tup [.int ((i : Nat)), .int ((j + 1 : Nat))]) n1 nL n2
          have s3 := same_new (o := .tup [.ref L, .ref T2]) n3
          have nLD : L ≠ D := fun e => (by rw [e, same_new n1 _ _ hD] at nL; cases nL)
          obtain ⟨acc, ha, hl, om⟩ := ol.more (same_trans sx s3) (o := ([.put j], i, j + 1)) ⟨L, T2, nLD, upd_same, one_stp (s := .put j) (s3 _ _ eL) ⟨q, hqv0, s3 _ _ e1⟩, s3 _ _ e2⟩
          refine ⟨D, acc, _, rfl, rfl, ha, by rw [hl]; simp only [List.nil_append, List.length_append, List.length_cons, List.length_nil]; omega, ?_⟩
          clear ol hD
          generalize hX : upd _ D _ = H9
          have ol : OptL H os D ((([] ++ [([], i + 1, j + 1)]) ++ [([.change j], i + 1, j + 1)]) ++ [([.put j], i, j + 1)]) H9 := by rw [← hX]; exact om
          clear hX om ha
          refine ⟨_, rfl, _, rfl, pg, _, rfl, .inl (same_sqL ol.sm hP.lst), _, _, rfl, rfl, true, dT (by rw [lp]; omega), iteT ?_⟩
          obtain ⟨ts, hD, _⟩ := ol.ts
          refine ⟨_, rfl, .inl ⟨rfl, _, SqL.of hD⟩, _, rfl, by show 2 ≤ sizeLine; decide, fun T1 n1 => ⟨by show 1 ≤ sizeLine; decide, fun L nL => ⟨_, rfl, _, _, rfl, rfl, _, rfl, by show 2 ≤ sizeLine; decide, fun T2 n2 => ⟨by show 2 ≤ sizeLine; decide, fun T3 n3 => ?_⟩⟩⟩⟩
          obtain ⟨sx, e1, eL, e2⟩ := new3 (oa := .tup [.str "take", .int (j : Nat)]) (ob := .lst [.ref T1]) (oc := .tup [.int ((i + 1 : Nat)), .int ((j : Nat))]) n1 nL n2
          have s3 := same_new (o := .tup [.ref L, .ref T2]) n3
          have nLD : L ≠ D := fun e => (by rw [e, same_new n1 _ _ hD] at nL; cases nL)
          obtain ⟨acc, ha, hl, om⟩ := ol.more (same_trans sx s3) (o := ([.take j], i + 1, j)) ⟨L, T2, nLD, upd_same, one_stp (s := .take j) (s3 _ _ eL) (s3 _ _ e1), s3 _ _ e2⟩
          refine ⟨D, acc, _, rfl, rfl, ha, by rw [hl]; simp only [List.nil_append, List.length_append, List.length_cons, List.length_nil]; omega, ?_⟩
          clear ol hD
          generalize hX : upd _ D _ = H9
          have ol : OptL H os D (((([] ++ [([], i + 1, j + 1)]) ++ [([.change j], i + 1, j + 1)]) ++ [([.put j], i, j + 1)]) ++ [([.take j], i + 1, j)]) H9 := by rw [← hX]; exact om
          clear hX om ha
          exact ⟨_, rfl, k D _ (by rw [ek]; exact ol)⟩
        · have ek : optsK rp ro i j = [([.change j], i + 1, j + 1), ([.put j], i, j + 1), ([.take j], i + 1, j)] := by unfold optsK; rw [if_pos ⟨ci, cj⟩, if_neg he, if_pos cj, if_pos ci]; rfl
          refine ⟨_, rfl, _, rfl, pg, _, rfl, .inl (same_sqL ol.sm hP.lst), _, _, rfl, rfl, true, dT (by rw [lp]; omega), iteT ⟨_, rfl, _, rfl, og, _, rfl, .inl (same_sqL ol.sm hO.lst), _, _, rfl, rfl, true, dT (by rw [lo]; omega), iteT ?_⟩⟩
          refine ⟨_, rfl, _, rfl, pg, _, ((i : Nat) : Int), .ref qp, rfl, rfl, same_sqL ol.sm hP.lst, atI_nat hpv, _, rfl, _, rfl, og, _, ((j : Nat) : Int), .ref q, rfl, rfl, same_sqL ol.sm hO.lst, atI_nat hqv, ?_⟩
          refine ⟨_, _, .tup (same_sqT ol.sm hpr) (dp_strs _), .tup (same_sqT ol.sm hqr) (dp_strs _), shape_row (gP.rows _ hpm), shape_row (gO.rows _ hqm), ?_⟩
          rw [eqv_row]
          refine ⟨false, dF he, iteF ?_⟩
          obtain ⟨ts, hD, _⟩ := ol.ts
          refine ⟨_, rfl, .inl ⟨rfl, _, SqL.of hD⟩, _, rfl, _, rfl, _, rfl, og, _, ((j : Nat) : Int), .ref q, rfl, rfl, same_sqL ol.sm hO.lst, atI_nat hqv, by show 3 ≤ sizeLine; decide, fun T1 n1 => ⟨by show 1 ≤ sizeLine; decide, fun L nL => ⟨_, rfl, _, _, rfl, rfl, _, rfl, _, _, rfl, rfl, by show 2 ≤ sizeLine; decide, fun T2 n2 => ⟨by show 2 ≤ sizeLine; decide, fun T3 n3 => ?_⟩⟩⟩⟩
          obtain ⟨sx, e1, eL, e2⟩ := new3 (oa := .tup [.str "change", .int (j : Nat), .ref q]) (ob := .lst [.ref T1]) (oc := .tup [.int ((i + 1 : Nat)), .int ((j + 1 : Nat))]) n1 nL n2
          have s3 := same_new (o := .tup [.ref L, .ref T2]) n3
          have nLD : L ≠ D := fun e => (by rw [e, same_new n1 _ _ hD] at nL; cases nL)
          obtain ⟨acc, ha, hl, om⟩ := ol.more (same_trans sx s3) (o := ([.change j], i + 1, j + 1)) ⟨L, T2, nLD, upd_same, one_stp (s := .change j) (s3 _ _ eL) ⟨q, hqv0, s3 _ _ e1⟩, s3 _ _ e2⟩
          refine ⟨D, acc, _, rfl, rfl, ha, by rw [hl]; simp only [List.nil_append, List.length_append, List.length_cons, List.length_nil]; omega, ?_⟩
          clear ol hD
          generalize hX : upd _ D _ = H9
          have ol : OptL H os D ([] ++ [([.change j], i + 1, j + 1)]) H9 := by rw [← hX]; exact om
          clear hX om ha
          refine ⟨_, rfl, _, rfl, og, _, rfl, .inl (same_sqL ol.sm hO.lst), _, _, rfl, rfl, true, dT (by rw [lo]; omega), iteT ?_⟩
          obtain ⟨ts, hD, _⟩ := ol.ts
          refine ⟨_, rfl, .inl ⟨rfl, _, SqL.of hD⟩, _, rfl, _, rfl, _, rfl, og, _, ((j : Nat) : Int), .ref q, rfl, rfl, same_sqL ol.sm hO.lst, atI_nat hqv, by show 3 ≤ sizeLine; decide, fun T1 n1 => ⟨by show 1 ≤ sizeLine; decide, fun L nL => ⟨_, rfl, _, rfl, _, _, rfl, rfl, by show 2 ≤ sizeLine; decide, fun T2 n2 => ⟨by show 2 ≤ sizeLine; decide, fun T3 n3 => ?_⟩⟩⟩⟩
          obtain ⟨sx, e1, eL, e2⟩ := new3 (oa := .tup [.str "put", .int (j : Nat), .ref q]) (ob := .lst [.ref T1]) (oc := .tup [.int ((i : Nat)), .int ((j + 1 : Nat))]) n1 nL n2
          have s3 := same_new (o := .tup [.ref L, .ref T2]) n3
          have nLD : L ≠ D := fun e => (by rw [e, same_new n1 _ _ hD] at nL; cases nL)
          obtain ⟨acc, ha, hl, om⟩ := ol.more (same_trans sx s3) (o := ([.put j], i, j + 1)) ⟨L, T2, nLD, upd_same, one_stp (s := .put j) (s3 _ _ eL) ⟨q, hqv0, s3 _ _ e1⟩, s3 _ _ e2⟩
          refine ⟨D, acc, _, rfl, rfl, ha, by rw [hl]; simp only [List.nil_append, List.length_append, List.length_cons, List.length_nil]; omega, ?_⟩
          clear ol hD
          generalize hX : upd _ D _ = H9
          have ol : OptL H os D (([] ++ [([.change j], i + 1, j + 1)]) ++ [([.put j], i, j + 1)]) H9 := by rw [← hX]; exact om
          clear hX om ha
          refine ⟨_, rfl, _, rfl, pg, _, rfl, .inl (same_sqL ol.sm hP.lst), _, _, rfl, rfl, true, dT (by rw [lp]; omega), iteT ?_⟩
          obtain ⟨ts, hD, _⟩ := ol.ts
          refine ⟨_, rfl, .inl ⟨rfl, _, SqL.of hD⟩, _, rfl, by show 2 ≤ sizeLine; decide, fun T1 n1 => ⟨by show 1 ≤ sizeLine; decide, fun L nL => ⟨_, rfl, _, _, rfl, rfl, _, rfl, by show 2 ≤ sizeLine; decide, fun T2 n2 => ⟨by show 2 ≤ sizeLine; decide, fun T3 n3 => ?_⟩⟩⟩⟩
          obtain ⟨sx, e1, eL, e2⟩ := new3 (oa := .tup [.str "take", .int (j : Nat)]) (ob := .lst [.ref T1]) (oc := .tup [.int ((i + 1 : Nat)), .int ((j : Nat))]) n1 nL n2
          have s3 := same_new (o := .tup [.ref L, .ref T2]) n3
          have nLD : L ≠ D := fun e => (by rw [e, same_new n1 _ _ hD] at nL; cases nL)
          obtain ⟨acc, ha, hl, om⟩ := ol.more (same_trans sx s3) (o := ([.take j], i + 1, j)) ⟨L, T2, nLD, upd_same, one_stp (s := .take j) (s3 _ _ eL) (s3 _ _ e1), s3 _ _ e2⟩
          refine ⟨D, acc, _, rfl, rfl, ha, by rw [hl]; simp only [List.nil_append, List.length_append, List.length_cons, List.length_nil]; omega, ?_⟩
          clear ol hD
          generalize hX : upd _ D _ = H9
          have ol : OptL H os D ((([] ++ [([.change j], i + 1, j + 1)]) ++ [([.put j], i, j + 1)]) ++ [([.take j], i + 1, j)]) H9 := by rw [← hX]; exact om
          clear hX om ha
          exact ⟨_, rfl, k D _ (by rw [ek]; exact ol)⟩
      · have ek : optsK rp ro i j = [([.take j], i + 1, j)] := by unfold optsK; rw [if_neg fun z => cj z.2, if_neg cj, if_pos ci]; rfl
        refine ⟨_, rfl, _, rfl, pg, _, rfl, .inl (same_sqL ol.sm hP.lst), _, _, rfl, rfl, true, dT (by rw [lp]; omega), iteT ⟨_, rfl, _, rfl, og, _, rfl, .inl (same_sqL ol.sm hO.lst), _, _, rfl, rfl, false, dF (by rw [lo]; omega), iteF ?_⟩⟩
        refine ⟨_, rfl, _, rfl, og, _, rfl, .inl (same_sqL ol.sm hO.lst), _, _, rfl, rfl, false, dF (by rw [lo]; omega), iteF ?_⟩
        refine ⟨_, rfl, _, rfl, pg, _, rfl, .inl (same_sqL ol.sm hP.lst), _, _, rfl, rfl, true, dT (by rw [lp]; omega), iteT ?_⟩
        obtain ⟨ts, hD, _⟩ := ol.ts
        refine ⟨_, rfl, .inl ⟨rfl, _, SqL.of hD⟩, _, rfl, by show 2 ≤ sizeLine; decide, fun T1 n1 => ⟨by show 1 ≤ sizeLine; decide, fun L nL => ⟨_, rfl, _, _, rfl, rfl, _, rfl, by show 2 ≤ sizeLine; decide, fun T2 n2 => ⟨by show 2 ≤ sizeLine; decide, fun T3 n3 => ?_⟩⟩⟩⟩
        obtain ⟨sx, e1, eL, e2⟩ := new3 (oa := .tup [.str "take", .int (j : Nat)]) (ob := .lst [.ref T1]) (oc := .tup [.int ((i + 1 : Nat)), .int ((j : Nat))]) n1 nL n2
        have s3 := same_new (o := .tup [.ref L, .ref T2]) n3
        have nLD : L ≠ D := fun e => (by rw [e, same_new n1 _ _ hD] at nL; cases nL)
        obtain ⟨acc, ha, hl, om⟩ := ol.more (same_trans sx s3) (o := ([.take j], i + 1, j)) ⟨L, T2, nLD, upd_same, one_stp (s := .take j) (s3 _ _ eL) (s3 _ _ e1), s3 _ _ e2⟩
        refine ⟨D, acc, _, rfl, rfl, ha, by rw [hl]; simp only [List.nil_append, List.length_append, List.length_cons, List.length_nil]; omega, ?_⟩
        clear ol hD
        generalize hX : upd _ D _ = H9
        have ol : OptL H os D ([] ++ [([.take j], i + 1, j)]) H9 := by rw [← hX]; exact om
        clear hX om ha
        exact ⟨_, rfl, k D _ (by rw [ek]; exact ol)⟩
    · have ek0 : (if i < rp.length ∧ j < ro.length then (if rp.getD i [] = ro.getD j [] then [([], i + 1, j + 1)] else []) ++ [([Stp.change j], i + 1, j + 1)] else []) = ([] : List Opt) := if_neg fun z => ci z.1
      by_cases cj : j < ro.length
      · obtain ⟨q, hqv0, hqr⟩ : ∃ q, os[j]? = some q ∧ SqT K H q (sV (ro.getD j [])) := ⟨os[j]'(by have := hO.len; omega), List.getElem?_eq_getElem _, hO.row j _ _ (List.getElem?_eq_getElem _) (getD_get cj)⟩
        have hqv : (os.map V.ref)[j]? = some (.ref q) := by rw [List.getElem?_map, hqv0]; rfl
        have ek : optsK rp ro i j = [([.put j], i, j + 1)] := by unfold optsK; rw [ek0, if_pos cj, if_neg ci]; rfl
        refine ⟨_, rfl, _, rfl, pg, _, rfl, .inl (same_sqL ol.sm hP.lst), _, _, rfl, rfl, false, dF (by rw [lp]; omega), iteF ?_⟩
        refine ⟨_, rfl, _, rfl, og, _, rfl, .inl (same_sqL ol.sm hO.lst), _, _, rfl, rfl, true, dT (by rw [lo]; omega), iteT ?_⟩
        obtain ⟨ts, hD, _⟩ := ol.ts
        refine ⟨_, rfl, .inl ⟨rfl, _, SqL.of hD⟩, _, rfl, _, rfl, _, rfl, og, _, ((j : Nat) : Int), .ref q, rfl, rfl, same_sqL ol.sm hO.lst, atI_nat hqv, by show 3 ≤ sizeLine; decide, fun T1 n1 => ⟨by show 1 ≤ sizeLine; decide, fun L nL => ⟨_, rfl, _, rfl, _, _, rfl, rfl, by show 2 ≤ sizeLine; decide, fun T2 n2 => ⟨by show 2 ≤ sizeLine; decide, fun T3 n3 => ?_⟩⟩⟩⟩
        obtain ⟨sx, e1, eL, e2⟩ := new3 (oa := .tup [.str "put", .int (j : Nat), .ref q]) (ob := .lst [.ref T1]) (oc := .tup [.int ((i : Nat)), .int ((j + 1 : Nat))]) n1 nL n2
        have s3 := same_new (o := .tup [.ref L, .ref T2]) n3
        have nLD : L ≠ D := fun e => (by rw [e, same_new n1 _ _ hD] at nL; cases nL)
        obtain ⟨acc, ha, hl, om⟩ := ol.more (same_trans sx s3) (o := ([.put j], i, j + 1)) ⟨L, T2, nLD, upd_same, one_stp (s := .put j) (s3 _ _ eL) ⟨q, hqv0, s3 _ _ e1⟩, s3 _ _ e2⟩
        refine ⟨D, acc, _, rfl, rfl, ha, by rw [hl]; simp only [List.nil_append, List.length_append, List.length_cons, List.length_nil]; omega, ?_⟩
        clear ol hD
        generalize hX : upd _ D _ = H9
        have ol : OptL H os D ([] ++ [([.put j], i, j + 1)]) H9 := by rw [← hX]; exact om
        clear hX om ha
        refine ⟨_, rfl, _, rfl, pg, _, rfl, .inl (same_sqL ol.sm hP.lst), _, _, rfl, rfl, false, dF (by rw [lp]; omega), iteF ?_⟩
        exact ⟨_, rfl, k D _ (by rw [ek]; exact ol)⟩
      · have ek : optsK rp ro i j = [] := by unfold optsK; rw [ek0, if_neg cj, if_neg ci]; rfl
        refine ⟨_, rfl, _, rfl, pg, _, rfl, .inl (same_sqL ol.sm hP.lst), _, _, rfl, rfl, false, dF (by rw [lp]; omega), iteF ?_⟩
        refine ⟨_, rfl, _, rfl, og, _, rfl, .inl (same_sqL ol.sm hO.lst), _, _, rfl, rfl, false, dF (by rw [lo]; omega), iteF ?_⟩
        refine ⟨_, rfl, _, rfl, pg, _, rfl, .inl (same_sqL ol.sm hP.lst), _, _, rfl, rfl, false, dF (by rw [lp]; omega), iteF ?_⟩
        exact ⟨_, rfl, k D _ (by rw [ek]; exact ol)⟩
end
end TGK

namespace TGK
open TG RT
open PySem PySem.Spec PyProof.Rows L2 NdefX GenW Gx Lv EnT
/-! ### the plan, told by what goes from a place -/
noncomputable abbrev fromK (P O : List RT.Row) (o : Opt) : List Stp := o.1 ++ plan (P.drop o.2.1) (O.drop o.2.2) o.2.2
theorem pick_one (x : List Stp) : pickS [x] = x := by
  unfold pickS
  have := (bestLen_first (fun i => ([x].getD i []).length) (n := 1) (by omega)).1
  have e : bestLen (fun i => ([x].getD i []).length) [x].length = 0 := by
    show bestLen (fun i => ([x].getD i []).length) 1 = 0
    omega
  rw [e]
  rfl
theorem drop_get {l : List RT.Row} {i : Nat} (h : i < l.length) : l.drop i = l.getD i [] :: l.drop (i + 1) := by
  rw [List.drop_eq_getElem_cons h, List.getD_eq_getElem?_getD, List.getElem?_eq_getElem h]
  rfl
theorem plan_at (P O : List RT.Row) {i j : Nat} (hi : i ≤ P.length) (hj : j ≤ O.length) : pickS ((optsK P O i j).map (fromK P O)) = plan (P.drop i) (O.drop j) j := by
  by_cases ci : i < P.length
  · by_cases cj : j < O.length
    · have e1 := drop_get ci
      have e2 := drop_get cj
      rw [e1, e2, plan_cons, ← e1, ← e2]
      unfold optsK
      by_cases he : P.getD i [] = O.getD j []
      · rw [if_pos ⟨ci, cj⟩, if_pos he, if_pos cj, if_pos ci, if_pos he]
        rfl
      · rw [if_pos ⟨ci, cj⟩, if_neg he, if_pos cj, if_pos ci, if_neg he]
        rfl
    · have e1 := drop_get ci
      have e2 : O.drop j = [] := List.drop_eq_nil_of_le (by omega)
      unfold optsK
      rw [if_neg fun z => cj z.2, if_neg cj, if_pos ci]
      show pickS [fromK P O ([.take j], i + 1, j)] = _
      rw [pick_one, e1, e2, plan]
      show Stp.take j :: plan (P.drop (i + 1)) (O.drop j) j = _
      rw [e2]
  · have e1 : P.drop i = [] := List.drop_eq_nil_of_le (by omega)
    by_cases cj : j < O.length
    · have e2 := drop_get cj
      unfold optsK
      rw [if_neg fun z => ci z.1, if_pos cj, if_neg ci]
      show pickS [fromK P O ([.put j], i, j + 1)] = _
      rw [pick_one, e1, e2, plan]
      show Stp.put j :: plan (P.drop i) (O.drop (j + 1)) (j + 1) = _
      rw [e1]
    · have e2 : O.drop j = [] := List.drop_eq_nil_of_le (by omega)
      unfold optsK
      rw [if_neg fun z => ci z.1, if_neg cj, if_neg ci, e1, e2, plan]
      rfl
theorem plan_le (P O : List RT.Row) (j : Nat) (hP : P.length ≤ 30) (hO : O.length ≤ 30) : (plan P O j).length ≤ 30 := by
  rw [plan_len _ P O j (Nat.le_refl _)]
  have := (ed_le _ P O (Nat.le_refl _)).1
  omega
theorem opts_le (P O : List RT.Row) (i j : Nat) : (optsK P O i j).length ≤ 4 := by
  unfold optsK
  split <;> split <;> split <;> (try split) <;> simp
theorem opts_in {P O : List RT.Row} {i j : Nat} {o : Opt} (h : o ∈ optsK P O i j) : o.1.length ≤ 1 ∧ ((o.2.1 = i ∧ o.2.2 = j + 1) ∨ (o.2.1 = i + 1 ∧ (o.2.2 = j ∨ o.2.2 = j + 1))) ∧ (o.2.1 = i + 1 → i < P.length) ∧ (o.2.2 = j + 1 → j < O.length) := by
  unfold optsK at h
  rcases List.mem_append.mp h with h | h
  · rcases List.mem_append.mp h with h | h
    · by_cases c : i < P.length ∧ j < O.length
      · rw [if_pos c] at h
        rcases List.mem_append.mp h with h | h
        · by_cases e : P.getD i [] = O.getD j []
          · rw [if_pos e, List.mem_singleton] at h
            subst h
            exact ⟨by simp, .inr ⟨rfl, .inr rfl⟩, fun _ => c.1, fun _ => c.2⟩
          · rw [if_neg e] at h
            cases h
        · rw [List.mem_singleton] at h
          subst h
          exact ⟨by simp, .inr ⟨rfl, .inr rfl⟩, fun _ => c.1, fun _ => c.2⟩
      · rw [if_neg c] at h
        cases h
    · by_cases c : j < O.length
      · rw [if_pos c, List.mem_singleton] at h
        subst h
        exact ⟨by simp, .inl ⟨rfl, rfl⟩, fun z => (by simp at z), fun _ => c⟩
      · rw [if_neg c] at h
        cases h
  · by_cases c : i < P.length
    · rw [if_pos c, List.mem_singleton] at h
      subst h
      exact ⟨by simp, .inr ⟨rfl, .inl rfl⟩, fun _ => c, fun z => (by simp at z)⟩
    · rw [if_neg c] at h
      cases h
theorem putK_len {κ : Type} [DecidableEq κ] (kvs : List (κ × V)) (k : κ) (v : V) : (putK kvs k v).length ≤ kvs.length + 1 := by
  unfold putK
  split
  · rw [List.length_map]; omega
  · rw [List.length_append]; exact Nat.le_refl _
/-! ### the plans found so far -/
abbrev ky (i j : Nat) : List Key := [.inl (i : Nat), .inl (j : Nat)]
structure PlS (H1 : Hp) (os : List Addr) (P O : List RT.Row) (D : Addr) (n : Nat) (dn : Nat → Nat → Prop) (H : Hp) : Prop where
  sm : Same H1 H
  nD : H1 D = none
  dt : ∃ kvs : List (List Key × V), H D = some (.dT kvs) ∧ kvs.length ≤ n ∧ ∀ i j, dn i j → ∃ L, valV kvs (ky i j) = some (.ref L) ∧ StpsA H os L (plan (P.drop i) (O.drop j) j)
theorem PlS.start {H1 : Hp} {os : List Addr} {P O : List RT.Row} {D : Addr} {dn : Nat → Nat → Prop} (n : H1 D = none) (h : ∀ i j, ¬ dn i j) : PlS H1 os P O D 0 dn (upd H1 D (.dT [])) :=
  ⟨same_new n, n, [], upd_same, Nat.le_refl _, fun i j z => (h i j z).elim⟩
theorem PlS.grow {H1 H H' : Hp} {os : List Addr} {P O : List RT.Row} {D : Addr} {n : Nat} {dn : Nat → Nat → Prop} (p : PlS H1 os P O D n dn H) (x : Same H H') : PlS H1 os P O D n dn H' := by
  obtain ⟨kvs, h1, h2, h3⟩ := p.dt
  exact ⟨same_trans p.sm x, p.nD, kvs, x _ _ h1, h2, fun i j z => by
    obtain ⟨L, e1, e2⟩ := h3 i j z
    exact ⟨L, e1, e2.same x⟩⟩
theorem PlS.mono {H1 H : Hp} {os : List Addr} {P O : List RT.Row} {D : Addr} {n m : Nat} {dn dm : Nat → Nat → Prop} (p : PlS H1 os P O D n dn H) (h : n ≤ m) (hd : ∀ i j, dm i j → dn i j) : PlS H1 os P O D m dm H := by
  obtain ⟨kvs, h1, h2, h3⟩ := p.dt
  exact ⟨p.sm, p.nD, kvs, h1, by omega, fun i j z => h3 i j (hd i j z)⟩
theorem PlS.put {H1 H : Hp} {os : List Addr} {P O : List RT.Row} {D L t : Addr} {n i j : Nat} {dn dm : Nat → Nat → Prop} (p : PlS H1 os P O D n dn H) (hL : StpsA H os L (plan (P.drop i) (O.drop j) j)) (ht : H t = some (.tup [.int (i : Nat), .int (j : Nat)])) (hn : n < sizeLine)
    (hd : ∀ a b, dm a b → dn a b ∨ (a = i ∧ b = j)) : ∃ H', DPut H D (.ref t) (.ref L) H' ∧ PlS H1 os P O D (n + 1) dm H' := by
  obtain ⟨kvs, h1, h2, h3⟩ := p.dt
  have bt : Bt D H (upd H D (.dT (putK kvs (ky i j) (.ref L)))) := bt_upd fun xs h => by rw [h1] at h; cases h
  have ld : ∀ {L : Addr} {l : List Stp}, StpsA H os L l → L ≠ D := fun {L l} h e => by
    obtain ⟨ts, e1, _⟩ := h
    rw [e, h1] at e1
    cases e1
  refine ⟨_, DPut.t (k := ky i j) h1 ht (by omega), fun b u e => by rw [upd_ne (ne_of_none e p.nD)]; exact p.sm b u e, p.nD, _, upd_same, Nat.le_trans (putK_len _ _ _) (by omega), fun a b z => ?_⟩
  by_cases e : a = i ∧ b = j
  · obtain ⟨rfl, rfl⟩ := e
    exact ⟨L, by rw [valV_put, if_pos rfl], hL.bt bt (ld hL)⟩
  · rcases hd a b z with z | z
    · obtain ⟨M, e1, e2⟩ := h3 a b z
      refine ⟨M, ?_, e2.bt bt (ld e2)⟩
      rw [valV_put, if_neg, e1]
      intro q
      apply e
      injection q with q1 q2
      injection q2 with q2 _
      injection q1 with q1
      injection q2 with q2
      exact ⟨Int.ofNat.inj q1, Int.ofNat.inj q2⟩
    · exact (e z).elim
theorem StpsA.raw {H : Hp} {os : List Addr} {A : Addr} {l : List Stp} (hA : StpsA H os A l) : ∃ xs, H A = some (.lst xs) ∧ xs.length = l.length := by
  obtain ⟨ts, a1, a2, _⟩ := hA
  exact ⟨_, a1, by rw [List.length_map, a2]⟩
theorem StpsA.cat {H : Hp} {os : List Addr} {A B D : Addr} {l m : List Stp} (hA : StpsA H os A l) (hB : StpsA H os B m) (nD : H D = none) : ∃ xs ys, H A = some (.lst xs) ∧ H B = some (.lst ys) ∧ xs.length = l.length ∧ ys.length = m.length ∧ StpsA (upd H D (.lst (xs ++ ys))) os D (l ++ m) := by
  obtain ⟨ts, a1, a2, a3⟩ := hA
  obtain ⟨us, b1, b2, b3⟩ := hB
  refine ⟨_, _, a1, b1, by rw [List.length_map, a2], by rw [List.length_map, b2], ts ++ us, by rw [upd_same, List.map_append], by rw [List.length_append, List.length_append, a2, b2], fun k t s e1 e2 => ?_⟩
  have x : Same H (upd H D (.lst (ts.map V.ref ++ us.map V.ref))) := same_new nD
  by_cases hk : k < ts.length
  · rw [List.getElem?_append_left hk] at e1
    rw [List.getElem?_append_left (by rw [← a2]; exact hk)] at e2
    exact (a3 k t s e1 e2).same x
  · rw [List.getElem?_append_right (by omega)] at e1
    rw [List.getElem?_append_right (by omega)] at e2
    rw [a2] at e1
    exact (b3 _ t s e1 e2).same x
/-- the lists found -/
structure FoundL (H0 : Hp) (os : List Addr) (F : Addr) (ls : List (List Stp)) (H : Hp) : Prop where
  sm : Same H0 H
  nF : H0 F = none
  ts : ∃ ts : List Addr, H F = some (.lst (ts.map V.ref)) ∧ ts.length = ls.length ∧ ∀ (k : Nat) (t : Addr) (l : List Stp), ts[k]? = some t → ls[k]? = some l → t ≠ F ∧ StpsA H os t l
theorem FoundL.start {H0 : Hp} {os : List Addr} {F : Addr} (n : H0 F = none) : FoundL H0 os F [] (upd H0 F (.lst [])) := ⟨same_new n, n, [], upd_same, rfl, fun j t v h => by cases h⟩
theorem FoundL.more {H0 H H1 : Hp} {os : List Addr} {F t : Addr} {ls : List (List Stp)} {l : List Stp} (o : FoundL H0 os F ls H) (x : Same H H1) (nt : H t = none) (ht : StpsA H1 os t l) :
    ∃ acc, H1 F = some (.lst acc) ∧ acc.length = ls.length ∧ FoundL H0 os F (ls ++ [l]) (upd H1 F (.lst (acc ++ [.ref t]))) := by
  obtain ⟨ts, h1, h2, h3⟩ := o.ts
  have hF := x _ _ h1
  have bt : Bt F H1 (upd H1 F (.lst (ts.map V.ref ++ [.ref t]))) := bt_upd fun xs h => by rw [hF] at h; cases h
  have tF : t ≠ F := fun e => by rw [e, h1] at nt; cases nt
  refine ⟨_, hF, by rw [List.length_map, h2], fun b u e => by rw [upd_ne (ne_of_none e o.nF)]; exact x _ _ (o.sm b u e), o.nF, ts ++ [t], by rw [upd_same]; simp, by rw [List.length_append, List.length_append, h2]; rfl, fun j s u e1 e2 => ?_⟩
  by_cases hj : j < ts.length
  · rw [List.getElem?_append_left hj] at e1
    rw [List.getElem?_append_left (by rw [← h2]; exact hj)] at e2
    obtain ⟨q1, q2⟩ := h3 j s u e1 e2
    exact ⟨q1, (q2.same x).bt bt q1⟩
  · have hl := (List.getElem?_eq_some_iff.mp e1).1
    rw [List.length_append, List.length_singleton] at hl
    have ej : j = ts.length := by omega
    subst ej
    rw [List.getElem?_append_right (Nat.le_refl _), Nat.sub_self] at e1
    rw [h2, List.getElem?_append_right (Nat.le_refl _), Nat.sub_self] at e2
    cases e1
    cases e2
    exact ⟨tF, ht.bt bt tF⟩
section
variable {P : Program} {w : World} {K : PySem.W.Frag} {mg : Str → Option Value} {base : Heap} {cs : List (Addr × Addr)}
def spRoute (K : PySem.W.Frag) (cs : List (Addr × Addr)) : Sp := fun vs H Q _ => ∃ (pg og : Addr) (as os : List Addr) (rp ro : List RT.Row), vs = [.ref pg, .ref og] ∧ Tabs cs H ∧ PageAt K H pg as rp ∧ PageAt K H og os ro ∧ PgOk rp ∧ PgOk ro ∧
  ∀ L H', Ex cs H H' → StpsA H' os L (plan rp ro 0) → Q (.ref L) H'
abbrev nmRoute : List Str := ["page", "other", "plans", "here", "there", "found", "steps", "rest"]
theorem sc_route : FnScope nmRoute ["page", "other"] (defScope s_route) := ⟨rfl, rfl, rfl, by decide +kernel, rfl, by decide +kernel, by decide +kernel⟩
theorem ok_route {f gC gW : Addr} {fd fdC fdW : FuncData} (T : Txt mg) (hmn : mg "min" = none) (F : Fun K "route" "route" s_route f fd)
    (C : FnOk P w K mg base CX0 11 gC fdC ["page"] (spCheck K cs)) (kC : PySem.W.keepIn K (.ref gC) = true) (bC : Binds K fdC ["page"] []) (mC : mg "check_page" = some (.ref gC))
    (W : FnOk P w K mg base CX0 1 gW fdW ["page", "other", "here", "there"] (spWays K)) (kW : PySem.W.keepIn K (.ref gW) = true) (bW : Binds K fdW ["page", "other", "here", "there"] []) (mW : mg "ways" = some (.ref gW)) :
    FnOk P w K mg base CX0 12 f fd ["page", "other"] (spRoute K cs) := by
  refine F.ok sc_route (fun vs H Q E h => ?_) (fun cdv A outer s H vs Q E hr h => ?_)
  · obtain ⟨pg, og, _, _, _, _, rfl, _⟩ := h
    rfl
  · obtain ⟨pg, og, as, os, rp, ro, rfl, hT, hP, hO, gP, gO, k⟩ := h
    have nd := sc_route.nd
    have hu := hr.units
    have r1 : Room 1 _ := hr.mono (by decide)
    have r11 : Room 11 _ := hr.mono (by decide)
    have szl : (9000 : Nat) < sizeLine := by decide
    have hu1 : (A.deeper (envOfC (Str.ofString "route") (defScope s_route) s.heap.objs.size f cdv)).units + 1 < cLine := by omega
    refine ⟨_, (pss_cons (ps_expr (pe_call C r11 (by rfl) mC kC bC .nil pass0 (pa_cons (pv 0) pa_nil)))
      (pss_cons (ps_expr (pe_call C r11 (by rfl) mC kC bC .nil pass0 (pa_cons (pv 1) pa_nil)))
      (pss_cons (ps_set (i := 2) nd rfl (.inr rfl) pe_dnewT)
      (pss_cons (ps_for PassesOwn.never rfl (pi_range3 (by rfl) T.range (pa_cons (pe_callB call_len_seq (by rfl) T.len PySem.boot_len (pa_cons (pv 0) pa_nil)) (pa_cons (pe_un un_neg pe_int) (pa_cons (pe_un un_neg pe_int) pa_nil)))) (pg_name (i := 3) nd rfl (.inl rfl))
      (pss_one (ps_for PassesOwn.never rfl (pi_range3 (by rfl) T.range (pa_cons (pe_callB call_len_seq (by rfl) T.len PySem.boot_len (pa_cons (pv 1) pa_nil)) (pa_cons (pe_un un_neg pe_int) (pa_cons (pe_un un_neg pe_int) pa_nil)))) (pg_name (i := 4) nd rfl (.inl rfl))
      (pss_cons (ps_setLc (i := 5) (own := [("steps", 6), ("rest", 7)]) (g := gTup K 2 (gCons (gName 6) (gCons (gName 7) gNil))) (tt := tYes) rfl nd rfl rfl (sw_true rfl rfl rfl (by decide +kernel)) (pi_list (pe_call W r1 (by rfl) mW kW bW .nil pass0 (pa_cons (pv 0) (pa_cons (pv 1) (pa_cons (pv 3) (pa_cons (pv 4) pa_nil)))))) (blkOk_by (own := [("steps", 6), ("rest", 7)]) (N := nmRoute) (sc := defScope s_route) (by decide +kernel)) (fun _ _ _ _ _ => pg_tup rfl (pgs_cons (pg_name (i := 6) nd rfl (Or.inl rfl)) (pgs_cons (pg_name (i := 7) nd rfl (Or.inl rfl)) pgs_nil))) (fun _ _ _ _ _ => pts_nil) (fun _ _ _ _ _ => (pe_op op_cat (pv 6) (pe_dget hu1 (pv 2) (pv 7) (fun _ _ => rfl)))))
      (pss_one (ps_dput hu1 (pv 2) (pe_tup (pa_cons (pv 3) (pa_cons (pv 4) pa_nil))) (pe_minLen rfl (by rfl) hmn (by rfl) T.len (pv 5) (pe_lst pa_nil)) rfl))))))
      (pss_one (ps_ret (pe_dget hu1 (pv 2) (pe_tup (pa_cons pe_int (pa_cons pe_int pa_nil))) (fun _ _ => rfl)))))))), ?_⟩
    refine ⟨_, rfl, pg, as, rp, rfl, hT, hP, gP, fun Ha xa => ?_⟩
    refine ⟨_, rfl, og, os, ro, rfl, xa.tab, hO.ex xa, gO, fun H1 xb => ?_⟩
    have x1 := xa.trans xb
    have hP := hP.ex x1
    have hO := hO.ex x1
    clear xa xb
    have lp : (as.map V.ref).length = rp.length := by rw [List.length_map, hP.len]
    have lo : (os.map V.ref).length = ro.length := by rw [List.length_map, hO.len]
    have hR : ∀ n : Nat, n ≤ 30 → RgC ((n : Nat) : Int) (-1) (-1) (n + 1) := fun n hn => by
      have := RgC.neg (i := ((n : Nat) : Int)) (j := -1) (by omega) (by omega) (by omega) (by omega)
      have e : (((n : Nat) : Int) - (-1)).toNat = n + 1 := by omega
      rw [e] at this
      exact this
    have p30 := gP.len
    have o30 := gO.len
    refine fun D nD => ?_
    have o0 := PlS.start (os := os) (P := rp) (O := ro) (dn := fun i j => i ≤ rp.length ∧ j ≤ ro.length ∧ rp.length < i + 0) nD (fun i j z => by omega)
    generalize upd H1 D (.dT []) = H2 at o0 ⊢
    refine ⟨_, rfl, pg, _, rfl, .inl (same_sqL o0.sm hP.lst), _, rfl, _, rfl, _, _, _, rp.length + 1, rfl, by rw [lp]; exact hR _ p30, for_rangeC (n := rp.length + 1) (fun a σ H' => PlS H1 os rp ro D (a * 31) (fun i j => i ≤ rp.length ∧ j ≤ ro.length ∧ rp.length < i + a) H' ∧ ∃ c3 c4 c5 c6 c7 : Option V, σ = [some (.ref pg), some (.ref og), some (.ref D), c3, c4, c5, c6, c7])
      ⟨o0.mono (by omega) fun i j z => z, none, none, none, none, none, rfl⟩ ?_ ?_⟩
    rotate_left
    · rintro σ H3 ⟨o1, c3, c4, c5, c6, c7, rfl⟩
      refine ⟨_, rfl, by show 2 ≤ sizeLine; decide, fun T2 nT2 => ?_⟩
      have o2 := o1.grow (same_new (o := .tup [.int 0, .int 0]) nT2)
      obtain ⟨kvs, h1, h2, h3⟩ := o2.dt
      obtain ⟨L, e1, e2⟩ := h3 0 0 ⟨Nat.zero_le _, Nat.zero_le _, by omega⟩
      exact ⟨D, .ref L, rfl, by rw [← e1]; exact DGet.t h1 upd_same, k L _ (x1.trans (ex_same x1.tab o2.sm)) e2⟩
    rintro a σ H3 ha ⟨o1, c3, c4, c5, c6, c7, rfl⟩
    have e0 : (((as.map V.ref).length : Nat) : Int) + ((a : Nat) : Int) * (-1) = ((rp.length - a : Nat) : Int) := by rw [lp]; omega
    rw [e0]
    generalize hi : rp.length - a = i
    have hia : rp.length = i + a := by omega
    refine ⟨_, rfl, og, _, rfl, .inl (same_sqL o1.sm hO.lst), _, rfl, _, rfl, _, _, _, ro.length + 1, rfl, by rw [lo]; exact hR _ o30, for_rangeC (n := ro.length + 1) (fun b σ H' => PlS H1 os rp ro D (a * 31 + b) (fun i' j' => i' ≤ rp.length ∧ j' ≤ ro.length ∧ (rp.length < i' + a ∨ (rp.length = i' + a ∧ ro.length < j' + b))) H' ∧ ∃ c4 c5 c6 c7 : Option V, σ = [some (.ref pg), some (.ref og), some (.ref D), some (.int ((i : Nat) : Int)), c4, c5, c6, c7])
      ⟨o1.mono (by omega) fun i' j' z => ⟨z.1, z.2.1, by omega⟩, _, _, _, _, rfl⟩ ?_ ?_⟩
    rotate_left
    · rintro σ H4 ⟨o2, c4, c5, c6, c7, rfl⟩
      exact ⟨o2.mono (by omega) fun i' j' z => ⟨z.1, z.2.1, by omega⟩, _, _, _, _, _, rfl⟩
    clear o1
    rintro b σ H4 hb ⟨o1, c4, c5, c6, c7, rfl⟩
    have e0 : (((os.map V.ref).length : Nat) : Int) + ((b : Nat) : Int) * (-1) = ((ro.length - b : Nat) : Int) := by rw [lo]; omega
    rw [e0]
    generalize hj : ro.length - b = j
    have hjb : ro.length = j + b := by omega
    refine ⟨_, rfl, _, rfl, _, rfl, _, rfl, pg, og, as, os, rp, ro, i, j, rfl, hP.same o1.sm, hO.same o1.sm, gP, gO, by omega, by omega, fun F0 H5 ol => ?_⟩
    obtain ⟨ts, w1, w2, w3⟩ := ol.ts
    have o2 := o1.grow ol.sm
    refine ⟨F0, rfl, ⟨_, SqL.of w1⟩, fun Fd nF => lc_list (xs := ts.map V.ref) (fun q H' => FoundL H5 os Fd (((optsK rp ro i j).take q).map (fromK rp ro)) H') (FoundL.start nF) (fun q H' _ x => SqL.of (x.sm _ _ w1)) ?_ ?_⟩
    · rintro q v H6 hv o5
      obtain ⟨t, ht, rfl⟩ := get_map hv
      have hq : q < (optsK rp ro i j).length := by rw [← w2]; exact (List.getElem?_eq_some_iff.mp ht).1
      obtain ⟨op, hop⟩ : ∃ op, (optsK rp ro i j)[q]? = some op := ⟨_, List.getElem?_eq_getElem hq⟩
      obtain ⟨sl, p, _, t1, t2, t3⟩ := (w3 q t op ht hop).same o5.sm
      obtain ⟨m1, m2, m3, m4⟩ := opts_in (List.mem_of_getElem? hop)
      have o6 := o2.grow o5.sm
      obtain ⟨kvs, h1, h2, h3⟩ := o6.dt
      obtain ⟨M, e1, e2⟩ := h3 op.2.1 op.2.2 ⟨by omega, by omega, by omega⟩
      have pl := plan_le (rp.drop op.2.1) (ro.drop op.2.2) op.2.2 (by rw [List.length_drop]; omega) (by rw [List.length_drop]; omega)
      refine ⟨t, _, rfl, SqT.of t1, rfl, _, _, rfl, _, _, rfl, rfl, rfl, ?_⟩
      obtain ⟨xs, z1, z3⟩ := t2.raw
      obtain ⟨ys, z2, z4⟩ := e2.raw
      refine ⟨_, rfl, _, rfl, _, rfl, D, .ref M, rfl, by rw [← e1]; exact DGet.t h1 t3, sl, M, xs, ys, rfl, rfl, z1, z2, by omega, fun Rr nR => ?_⟩
      obtain ⟨xs', ys', y1, y2, _, _, z5⟩ := t2.cat e2 nR
      rw [z1] at y1
      rw [z2] at y2
      cases y1
      cases y2
      obtain ⟨acc, u1, u2, u3⟩ := o5.more (same_new nR) nR z5
      refine ⟨acc, u1, by rw [u2, List.length_map, List.length_take]; have := opts_le rp ro i j; omega, ?_⟩
      have e3 : ((optsK rp ro i j).take (q + 1)).map (fromK rp ro) = ((optsK rp ro i j).take q).map (fromK rp ro) ++ [fromK rp ro op] := by
        rw [List.take_succ, hop, List.map_append]
        rfl
      rw [e3]
      exact u3
    · rintro H6 o5
      have elen : (ts.map V.ref).length = (optsK rp ro i j).length := by rw [List.length_map, w2]
      rw [elen, List.take_of_length_le (Nat.le_refl _)] at o5
      have hpl := plan_at rp ro (i := i) (j := j) (by omega) (by omega)
      generalize (optsK rp ro i j).map (fromK rp ro) = ls at o5 hpl
      have o6 := o2.grow o5.sm
      obtain ⟨us, y1, y2, y3⟩ := o5.ts
      refine ⟨_, rfl, small0, fun E0 nE => ?_⟩
      have sE := same_new (o := .lst []) nE
      have o6 := o6.grow sE
      have y1 := sE _ _ y1
      refine ⟨Fd, us, fun k => (ls.getD k []).length, rfl, SqL.of y1, fun k b' hb' => ?_, fun h0 => ?_, fun hp b' hb' => ?_⟩
      · have hk : k < ls.length := by rw [← y2]; exact (List.getElem?_eq_some_iff.mp hb').1
        obtain ⟨_, vs, q1, q2, _⟩ := y3 k b' (ls[k]) hb' (List.getElem?_eq_getElem hk)
        refine ⟨_, SqL.of (sE _ _ q1), ?_⟩
        rw [List.length_map, q2]
        show _ = (ls.getD k []).length
        rw [List.getD_eq_getElem?_getD, List.getElem?_eq_getElem hk]
        rfl
      · have hL : StpsA (upd H6 E0 (.lst [])) os E0 (plan (rp.drop i) (ro.drop j) j) := by
          have : ls = [] := List.eq_nil_of_length_eq_zero (by omega)
          rw [← hpl, this]
          exact ⟨[], upd_same, rfl, fun k t s e => by cases e⟩
        refine ⟨_, rfl, _, rfl, _, rfl, by show 2 ≤ sizeLine; decide, fun T2 nT2 => ?_⟩
        have sT := same_new (o := .tup [.int ((i : Nat) : Int), .int ((j : Nat) : Int)]) nT2
        obtain ⟨H7, dp, o7⟩ := (o6.grow sT).put (i := i) (j := j) (t := T2) (dm := fun i' j' => i' ≤ rp.length ∧ j' ≤ ro.length ∧ (rp.length < i' + a ∨ (rp.length = i' + a ∧ ro.length < j' + (b + 1)))) (hL.same sT) upd_same (by omega) (fun i' j' z => by
          by_cases c : i' = i ∧ j' = j
          · exact .inr c
          · exact .inl ⟨z.1, z.2.1, by omega⟩)
        exact ⟨D, H7, rfl, dp, o7, _, _, _, _, rfl⟩
      · have hL : StpsA (upd H6 E0 (.lst [])) os b' (plan (rp.drop i) (ro.drop j) j) := by
          rw [← hpl]
          have hk : bestLen (fun k => (ls.getD k []).length) us.length < ls.length := by rw [← y2]; exact (List.getElem?_eq_some_iff.mp hb').1
          have e9 : ls[bestLen (fun k => (ls.getD k []).length) us.length]? = some (pickS ls) := by
            unfold pickS
            rw [← y2, List.getD_eq_getElem?_getD, List.getElem?_eq_getElem hk]
            rfl
          exact (y3 _ b' _ hb' e9).2.same sE
        refine ⟨_, rfl, _, rfl, _, rfl, by show 2 ≤ sizeLine; decide, fun T2 nT2 => ?_⟩
        have sT := same_new (o := .tup [.int ((i : Nat) : Int), .int ((j : Nat) : Int)]) nT2
        obtain ⟨H7, dp, o7⟩ := (o6.grow sT).put (i := i) (j := j) (t := T2) (dm := fun i' j' => i' ≤ rp.length ∧ j' ≤ ro.length ∧ (rp.length < i' + a ∨ (rp.length = i' + a ∧ ro.length < j' + (b + 1)))) (hL.same sT) upd_same (by omega) (fun i' j' z => by
          by_cases c : i' = i ∧ j' = j
          · exact .inr c
          · exact .inl ⟨z.1, z.2.1, by omega⟩)
        exact ⟨D, H7, rfl, dp, o7, _, _, _, _, rfl⟩
end
end TGK

namespace TGK
open TG RT
open PySem PySem.Spec PyProof.Rows L2 NdefX GenW Gx Lv EnT
/-! ### a plan gone step by step -/
def deedOf (O : List RT.Row) : Stp → Deed
  | .change n => .change n (O.getD n [])
  | .put n => .put n (O.getD n [])
  | .take n => .take n
def GoodR : List RT.Row → List Deed → List RT.Row → Prop
  | cur, [], tgt => cur = tgt
  | cur, d :: ds, tgt => DOk cur d ∧ ∃ n m new, cutD cur d = some (n, m, new) ∧ fitsR ((cur.length : Nat) - (m : Nat) + (new.length : Nat)) new = true ∧ GoodR (splice cur n m new) ds tgt
theorem good_run {gap least : Int} {tgt : List RT.Row} : ∀ {ds : List Deed} {cur : List RT.Row}, GoodR cur ds tgt → ∃ Rr L, RunR gap least ds Rr L ∧ Rr 0 = cur ∧ Rr ds.length = tgt
  | [], cur, h => ⟨fun _ => cur, fun _ => [], fun i d e => (by cases e), rfl, h⟩
  | d :: ds, cur, h => by
    obtain ⟨h1, n, m, new, h2, h3, h4⟩ := h
    obtain ⟨Rr, L, r1, r2, r3⟩ := good_run (gap := gap) (least := least) h4
    refine ⟨fun i => match i with | 0 => cur | i + 1 => Rr i, fun i => match i with | 0 => laidR cur new gap least n m | i + 1 => L i, fun i d' e => ?_, rfl, r3⟩
    cases i with
    | zero =>
      cases e
      refine ⟨h1, ?_⟩
      unfold goneD
      rw [h2]
      show (if fitsR ((cur.length : Nat) - (m : Nat) + (new.length : Nat)) new = true then some (splice cur n m new, laidR cur new gap least n m) else none) = some (Rr 0, laidR cur new gap least n m)
      rw [if_pos h3, r2]
    | succ i => exact r1 i d' e
theorem splice_at {l P new : List RT.Row} {n m : Nat} (h : l.length = n) : splice (l ++ P) n m new = l ++ new ++ P.drop m := by
  subst h
  unfold splice
  rw [List.take_append_of_le_length (Nat.le_refl _), List.take_of_length_le (Nat.le_refl _), List.drop_append]
  have e1 : l.drop (l.length + m) = [] := List.drop_eq_nil_of_le (by omega)
  have e2 : l.length + m - l.length = m := by omega
  rw [e1, e2, List.nil_append]
theorem take_next {O o : List RT.Row} {b : RT.Row} {j : Nat} (h : O.drop j = b :: o) : O.take (j + 1) = O.take j ++ [b] ∧ O.drop (j + 1) = o ∧ O.getD j [] = b ∧ j < O.length ∧ b ∈ O := by
  have hj : j < O.length := by
    have := congrArg List.length h
    rw [List.length_drop, List.length_cons] at this
    omega
  have e := drop_get hj
  rw [h] at e
  injection e with e1 e2
  refine ⟨?_, e2.symm, e1.symm, hj, ?_⟩
  · rw [List.take_succ, getD_get hj, ← e1]
    rfl
  · rw [e1]
    exact List.mem_of_getElem? (getD_get hj)
theorem fits_new {m : Int} {r : RT.Row} (hr : RowOk r) (h : 1 ≤ m ∧ m ≤ 30) : fitsR m [r] = true := by
  unfold fitsR
  rw [decide_eq_true h, Bool.true_and, List.all_cons, List.all_nil, Bool.and_true]
  exact hr.loose.fit.mpr hr
theorem fits_nil {m : Int} (h : 1 ≤ m ∧ m ≤ 30) : fitsR m [] = true := by
  unfold fitsR
  rw [decide_eq_true h]
  rfl
theorem plan_good {O : List RT.Row} (hO : ∀ r ∈ O, RowOk r) (h1 : 1 ≤ O.length) : ∀ (n : Nat) (P o : List RT.Row) (j : Nat), P.length + o.length ≤ n → O.drop j = o → j ≤ O.length → O.length + P.length ≤ 30 → 1 ≤ j + P.length →
    GoodR (O.take j ++ P) ((plan P o j).map (deedOf O)) O
  | _, [], [], j, _, hd, hj, _, _ => by
    rw [plan]
    have : O.length ≤ j := by
      have := congrArg List.length hd
      rw [List.length_drop, List.length_nil] at this
      omega
    show O.take j ++ [] = O
    rw [List.append_nil, List.take_of_length_le this]
  | 0, [], _ :: _, _, h, _, _, _, _ => by simp at h
  | 0, _ :: _, [], _, h, _, _, _, _ => by simp at h
  | 0, _ :: _, _ :: _, _, h, _, _, _, _ => by simp at h
  | n + 1, [], b :: o, j, h, hd, hj, hl, hp => by
    obtain ⟨t1, t2, t3, t4, t5⟩ := take_next hd
    have ih := plan_good hO h1 n [] o (j + 1) (by simp at h ⊢; omega) t2 t4 hl (by omega)
    have lt : (O.take j).length = j := by rw [List.length_take]; omega
    rw [plan]
    refine ⟨⟨?_, by rw [t3]; exact hO _ t5⟩, j, 0, [b], by rw [← t3]; rfl, fits_new (hO _ t5) ?_, ?_⟩
    · rw [List.append_nil, lt]; exact Nat.le_refl _
    · rw [List.append_nil, lt]
      simp only [List.length_singleton, List.length_nil] at hp hl ⊢
      omega
    · rw [splice_at lt, ← t1]
      exact ih
  | n + 1, a :: p, [], j, h, hd, hj, hl, hp => by
    have hjl : O.length ≤ j := by
      have := congrArg List.length hd
      rw [List.length_drop, List.length_nil] at this
      omega
    have lt : (O.take j).length = j := by rw [List.length_take]; omega
    have ih := plan_good hO h1 n p [] j (by simp at h ⊢; omega) hd hj (by rw [List.length_cons] at hl; omega) (by omega)
    rw [plan]
    refine ⟨?_, j, 1, [], rfl, fits_nil ?_, ?_⟩
    · show j < (O.take j ++ a :: p).length
      rw [List.length_append, lt, List.length_cons]
      omega
    · rw [List.length_append, lt, List.length_cons]
      simp only [List.length_cons, List.length_nil] at hl ⊢
      omega
    · rw [splice_at lt, List.append_nil]
      exact ih
  | n + 1, a :: p, b :: o, j, h, hd, hj, hl, hp => by
    obtain ⟨t1, t2, t3, t4, t5⟩ := take_next hd
    have lt : (O.take j).length = j := by rw [List.length_take]; omega
    have hl' : O.length + (p.length + 1) ≤ 30 := hl
    have i1 := plan_good hO h1 n p o (j + 1) (by simp at h ⊢; omega) t2 t4 (by omega) (by omega)
    have i2 := plan_good hO h1 n (a :: p) o (j + 1) (by simp at h ⊢; omega) t2 t4 hl (by omega)
    have i3 : 1 ≤ j + p.length → GoodR (O.take j ++ p) ((plan p (b :: o) j).map (deedOf O)) O := fun q => plan_good hO h1 n p (b :: o) j (by simp at h ⊢; omega) hd hj (by omega) q
    have hs := plan_len _ p (b :: o) j (Nat.le_refl _)
    have hc := plan_len _ p o (j + 1) (Nat.le_refl _)
    rw [plan_cons]
    generalize hz : pickS ((if a = b then [plan p o (j + 1)] else []) ++ [.change j :: plan p o (j + 1), .put j :: plan (a :: p) o (j + 1), .take j :: plan p (b :: o) j]) = z
    have hm := pick_mem (l := (if a = b then [plan p o (j + 1)] else []) ++ [.change j :: plan p o (j + 1), .put j :: plan (a :: p) o (j + 1), .take j :: plan p (b :: o) j]) (by simp)
    have hle := pick_le (l := (if a = b then [plan p o (j + 1)] else []) ++ [.change j :: plan p o (j + 1), .put j :: plan (a :: p) o (j + 1), .take j :: plan p (b :: o) j]) (x := .change j :: plan p o (j + 1)) (by simp)
    rw [hz] at hm hle
    have lcur : (O.take j ++ a :: p).length = j + (p.length + 1) := by rw [List.length_append, lt, List.length_cons]
    have c0 : a = b → GoodR (O.take j ++ a :: p) ((plan p o (j + 1)).map (deedOf O)) O := fun e => by
      have : O.take j ++ a :: p = O.take (j + 1) ++ p := by rw [t1, e, List.append_assoc]; rfl
      rw [this]
      exact i1
    have c1 : GoodR (O.take j ++ a :: p) ((Stp.change j :: plan p o (j + 1)).map (deedOf O)) O := by
      refine ⟨⟨by rw [lcur]; omega, by rw [t3]; exact hO _ t5⟩, j, 1, [b], by rw [← t3]; rfl, fits_new (hO _ t5) ?_, ?_⟩
      · rw [lcur, List.length_singleton]; omega
      · rw [splice_at lt, ← t1]
        exact i1
    have c2 : GoodR (O.take j ++ a :: p) ((Stp.put j :: plan (a :: p) o (j + 1)).map (deedOf O)) O := by
      refine ⟨⟨by rw [lcur]; omega, by rw [t3]; exact hO _ t5⟩, j, 0, [b], by rw [← t3]; rfl, fits_new (hO _ t5) ?_, ?_⟩
      · rw [lcur, List.length_singleton]; omega
      · rw [splice_at lt, ← t1]
        exact i2
    have c3 : z = Stp.take j :: plan p (b :: o) j → GoodR (O.take j ++ a :: p) ((Stp.take j :: plan p (b :: o) j).map (deedOf O)) O := fun e => by
      have q : 1 ≤ j + p.length := by
        rcases Nat.eq_zero_or_pos (j + p.length) with q | q
        · exfalso
          have hp0 : p = [] := List.eq_nil_of_length_eq_zero (by omega)
          rw [e, List.length_cons, List.length_cons, hs, hc, hp0, ed_nil, ed_nil, List.length_cons] at hle
          omega
        · exact q
      refine ⟨by show j < _; rw [lcur]; omega, j, 1, [], rfl, fits_nil ?_, ?_⟩
      · rw [lcur, List.length_nil]; omega
      · rw [splice_at lt, List.append_nil]
        exact i3 q
    rcases List.mem_append.mp hm with hm | hm
    · by_cases e : a = b
      · rw [if_pos e, List.mem_singleton] at hm
        rw [hm]
        exact c0 e
      · rw [if_neg e] at hm
        cases hm
    · simp only [List.mem_cons, List.not_mem_nil, or_false] at hm
      rcases hm with e | e | e
      · rw [e]; exact c1
      · rw [e]; exact c2
      · rw [e]; exact c3 e
/-- what a route's steps do to the page -/
theorem plan_run {P O : List RT.Row} (gP : PgOk P) (gO : PgOk O) (h : O.length + P.length ≤ 30) (gap least : Int) : ∃ Rr L, RunR gap least ((plan P O 0).map (deedOf O)) Rr L ∧ Rr 0 = P ∧ Rr ((plan P O 0).map (deedOf O)).length = O := by
  have := plan_good (O := O) gO.rows gO.pos _ P O 0 (Nat.le_refl _) rfl (Nat.zero_le _) h (by have := gP.pos; omega)
  rw [List.take_zero, List.nil_append] at this
  exact good_run this
end TGK

namespace TG
open PySem PySem.Spec PyProof.Rows L2 NdefX GenW Gx Lv
section
variable {P : Program} {w : World} {K : PySem.W.Frag} {mg : Str → Option Value} {base : Heap}
def spPageM : Sp := fun vs H Q _ => ∃ (b l : Addr) (m : Int), vs = [.ref b, .int m] ∧ BoxAt H b l ∧ 1 ≤ m ∧ m ≤ 30 ∧
  ∀ (p : Addr) (as : List Addr) (rows : List (List Str)) (H' : Hp), BoxAt H' b l → KB b l H H' → H p = none → p ≠ b → p ≠ l → H' p = some (.lst (as.map V.ref)) → as.length = rows.length → (∀ (i : Nat) (q : Addr) (r : List Str), as[i]? = some q → rows[i]? = some r → H' q = some (.tup (sV r))) → PgOk rows → ((rows.length : Nat) : Int) ≤ m → Q (.ref p) H'
theorem ok_lpageM {f g g2 : Addr} {fd fdg fd2 : FuncData} (T : Txt mg) (F : Fun K "_law_page" "_law_page" s_page f fd)
    (G : FnOk P w K mg base CX0 1 g fdg ["_law_box", "_law_many"] spTake) (kp : PySem.W.keepIn K (.ref g) = true) (bd : Binds K fdg ["_law_box", "_law_many"] []) (mgg : mg "_law_take" = some (.ref g))
    (G2 : FnOk P w K mg base CX0 4 g2 fd2 ["_law_box", "_law_sorts", "_law_many"] spRowD) (kp2 : PySem.W.keepIn K (.ref g2) = true) (bd2 : Binds K fd2 ["_law_box", "_law_sorts", "_law_many"] []) (mg2 : mg "_law_row" = some (.ref g2)) : FnOk P w K mg base CX0 5 f fd ["_law_box", "_law_most"] spPageM := by
  refine F.ok sc_lpage (fun vs H Q E h => ?_) (fun cdv A outer s H vs Q E hr h => ?_)
  · obtain ⟨b, l, m, rfl, _⟩ := h
    rfl
  · obtain ⟨b, l, m, rfl, hB, m1, m30, k⟩ := h
    have nd := sc_lpage.nd
    have szl : (1000 : Nat) < sizeLine := by decide
    have hr1 : Room 1 _ := hr.mono (by decide)
    refine ⟨_, pss_cons (ps_setLc (i := 2) (own := [("_law_k", 7)]) (g := gName 7) rfl nd rfl rfl (sw_true rfl rfl rfl (by decide +kernel)) (pi_range1 (by rfl) T.range (pa_cons pe_int pa_nil)) (blkOk_by (own := [("_law_k", 7)]) (N := nmPage) (sc := defScope s_page) (by decide +kernel))
          (fun _ _ _ _ _ => pg_name (i := 7) nd rfl (Or.inl rfl)) (fun _ _ _ _ _ => pts_nil) (fun s1 H1 C1 cl1 fp1 => pe_call G hr1 (by rfl) mgg kp bd .nil pass0 (pa_cons (pv 0) (pa_cons pe_int pa_nil))))
      (pss_cons (ps_par (i := 3) (j := 4) rfl nd rfl rfl (by decide) rfl rfl (pa_cons (pe_op op_add pe_int (pe_call G hr1 (by rfl) mgg kp bd .nil pass0 (pa_cons (pv 0) (pa_cons pe_int pa_nil)))) (pa_cons (pe_lst pa_nil) pa_nil)) (by rfl))
      (pss_cons (ps_for PassesOwn.never rfl (pi_range1 (by rfl) T.range (pa_cons (pe_op op_add pe_int (pe_call G hr1 (by rfl) mgg kp bd .nil pass0 (pa_cons (pv 0) (pa_cons (pv 1) pa_nil)))) pa_nil)) (pg_name (i := 5) nd rfl (.inl rfl))
        (pss_cons (ps_set (i := 6) nd rfl (.inl rfl) (pe_call G hr1 (by rfl) mgg kp bd .nil pass0 (pa_cons (pv 0) (pa_cons pe_int pa_nil))))
        (pss_cons (ps_set (i := 3) nd rfl (.inl rfl) (pe_ix ix_list (pe_lst (pa_cons (pe_op op_add pe_int (pe_call G hr1 (by rfl) mgg kp bd .nil pass0 (pa_cons (pv 0) (pa_cons pe_int pa_nil)))) (pa_cons (pe_callB (call_max2 rfl) (by rfl) T.max (by decide +kernel) (pa_cons pe_int (pa_cons (pe_op op_sub (pv 3) pe_int) pa_nil)))
            (pa_cons (pe_callB (call_min2 rfl) (by rfl) T.min (by decide +kernel) (pa_cons pe_int (pa_cons (pe_op op_add (pv 3) pe_int) pa_nil))) (pa_cons (pv 3) pa_nil))))) (pe_callB (call_min2 rfl) (by rfl) T.min (by decide +kernel) (pa_cons (pv 6) (pa_cons pe_int pa_nil))) (fun _ _ => rfl)))
        (pss_cons (ps_expr (pe_bm PySem.F.plainAttrs_list PySem.F.slot_list_append PySem.F.type_list_append mt_append (pv 4) (pa_cons (pe_call G2 hr (by rfl) mg2 kp2 bd2 .nil pass0 (pa_cons (pv 0) (pa_cons (pv 2) (pa_cons (pv 3) pa_nil)))) pa_nil)))
        (pss_one (ps_if (pt_cmpR op_eq (pv 6) pe_int (nomark _))
          (pss_cons (ps_asg (pe_ix ix_list (pv 4) (pe_call G hr1 (by rfl) mgg kp bd .nil pass0 (pa_cons (pv 0) (pa_cons (pe_callB call_len_seq (by rfl) T.len PySem.boot_len (pa_cons (pv 4) pa_nil)) pa_nil))) (fun _ _ => rfl)) (pg_sub (pv 4) (pe_un un_neg pe_int) set_list))
          (pss_one (ps_set (i := 3) nd rfl (.inl rfl) (pe_callB call_len_seq (by rfl) T.len PySem.boot_len (pa_cons (pe_ix ix_list (pv 4) (pe_un un_neg pe_int) (fun _ _ => rfl)) pa_nil))))) pss_nil))))))
      (pss_one (ps_ret (pv 4))))), ?_⟩
    refine ⟨6, rfl, by decide, by decide, fun sr nsr => lc_range (n := 6) (fun i H' => IntsAt b l H sr i H') (IntsAt.start hB KB.refl nsr) ?_ ?_⟩
    · rintro i H1 hi o
      refine ⟨rfl, _, rfl, b, l, 2, rfl, o.box, by decide, by decide, fun r H2 r0 r1 hB2 x2 => ?_⟩
      obtain ⟨acc, hacc, hl, o2⟩ := o.more (z := r) hB2 x2
      exact ⟨acc, hacc, by omega, o2⟩
    rintro H1 ⟨hB1, x1, nsr, sb, sl, ss, h6, hs1⟩
    refine ⟨_, rfl, b, l, 6, rfl, hB1, by decide, by decide, fun m0 H2 a0 a1 hB2 x2 => ⟨1, m0, rfl, rfl, small0, fun lr nlr => ⟨_, _, rfl, ?_⟩⟩⟩
    have hs2 := x2 sr _ hs1 sb sl
    have y2 := x1.trans x2
    obtain ⟨lb, ll⟩ := new_ne hB2 nlr
    have lrs : lr ≠ sr := fun z => by rw [z, hs2] at nlr; cases nlr
    have nlr0 := new_old y2 hB2 nlr
    refine ⟨_, rfl, _, rfl, b, l, m, rfl, box_new hB2 nlr, by omega, by omega, fun tt H4 t0 t1 hB4 x4 => ⟨1, tt, rfl, rfl, 1 + tt, rfl, by omega, by omega, ?_⟩⟩
    have hs4 : H4 sr = some (.lst (ss.map V.int)) := x4 sr _ (by rw [upd_ne lrs.symm]; exact hs2) sb sl
    have y4 := (y2.trans (kb_new nlr)).trans x4
    have hl4 : H4 lr = some (.lst []) := x4 lr _ upd_same lb ll
    refine for_range (n := (1 + tt).toNat) (fun i σ H' => ∃ (mm : Int) (as : List Addr) (c5 c6 : Option V), σ = [some (.ref b), some (.int m), some (.ref sr), some (.int mm), some (.ref lr), c5, c6, none] ∧ 1 ≤ mm ∧ mm ≤ 6 ∧ BoxAt H' b l ∧ KB b l H H' ∧ H' sr = some (.lst (ss.map V.int)) ∧ H' lr = some (.lst (as.map V.ref)) ∧ as.length = i ∧ RowsP H' as)
      ⟨1 + m0, [], none, none, rfl, by omega, by omega, hB4, y4, hs4, hl4, rfl, fun p h => by simp at h⟩ ?_ ?_
    · rintro i σ H5 hi ⟨mm, as, c5, c6, rfl, mm1, mm6, hB5, y5, hs5, hl5, hlen, hR5⟩
      refine ⟨_, rfl, b, l, 8, rfl, hB5, by decide, by decide, fun way H6 w0 w1 hB6 x6 => ?_⟩
      refine ⟨_, rfl, b, l, 6, rfl, hB6, by decide, by decide, fun n6 H7 n0 n1 hB7 x7 => ⟨1, n6, rfl, rfl, _, rfl, mm, 1, rfl, rfl, 1, mm - 1, rfl, _, rfl, mm, 1, rfl, rfl, 6, mm + 1, rfl, _, rfl, line10 (by show 4 ≤ 1000; decide), fun q nq => ?_⟩⟩
      obtain ⟨mv, hmv, emv⟩ := pick (xs := [1 + n6, (if mm - 1 > 1 then mm - 1 else 1), (if mm + 1 < 6 then mm + 1 else 6), mm]) (i := if 3 < way then 3 else way) (by split <;> omega) (by show _ < (4 : Int); split <;> omega)
      have hmv2 : 1 ≤ mv ∧ mv ≤ 6 := by
        simp only [List.mem_cons, List.not_mem_nil, or_false] at hmv
        rcases hmv with h | h | h | h
        · omega
        · split at h <;> omega
        · split at h <;> omega
        · omega
      refine ⟨_, rfl, way, 3, rfl, q, _, _, .int mv, rfl, rfl, SqL.of upd_same, atI_map (f := V.int) emv, ?_⟩
      have y7 : KB b l H5 (upd H7 q (.lst (List.map V.int [1 + n6, (if mm - 1 > 1 then mm - 1 else 1), (if mm + 1 < 6 then mm + 1 else 6), mm]))) := (x6.trans x7).trans (kb_new nq)
      have hB8 := box_new (o := .lst (List.map V.int [1 + n6, (if mm - 1 > 1 then mm - 1 else 1), (if mm + 1 < 6 then mm + 1 else 6), mm])) hB7 nq
      have hl8 := y7 lr _ hl5 lb ll
      have hs8 := y7 sr _ hs5 sb sl
      refine ⟨_, rfl, .inl ⟨rfl, _, SqL.of hl8⟩, _, rfl, _, rfl, _, rfl, b, l, sr, ss, mv, rfl, hB8, hs8, h6, sb, sl, hmv2.1, hmv2.2, fun p r H9 hB9 x9 np hp hro => ?_⟩
      have hl9 := x9 lr _ hl8 lb ll
      have hs9 := x9 sr _ hs8 sb sl
      have plr : p ≠ lr := fun z => by rw [z, hl9] at hp; cases hp
      refine ⟨lr, _, .ref p, rfl, rfl, hl9, by rw [List.length_map]; omega, ?_⟩
      have el : as.map V.ref ++ [V.ref p] = (as ++ [p]).map V.ref := by simp
      rw [el]
      have y9 := kb_upd (o := .lst ((as ++ [p]).map V.ref)) (y5.trans (y7.trans x9)) nlr0
      have hB10 := box_upd (o := .lst ((as ++ [p]).map V.ref)) hB9 lb ll
      have hl10 : (upd H9 lr (.lst ((as ++ [p]).map V.ref))) lr = some (.lst ((as ++ [p]).map V.ref)) := upd_same
      have hs10 : (upd H9 lr (.lst ((as ++ [p]).map V.ref))) sr = some (.lst (ss.map V.int)) := by rw [upd_ne lrs.symm]; exact hs9
      have hR10 : RowsP (upd H9 lr (.lst ((as ++ [p]).map V.ref))) (as ++ [p]) := fun u hu => by
        rcases List.mem_append.mp hu with h | h
        · obtain ⟨r2, e1, e2⟩ := hR5 u h
          have e3 := kb_tup (y7.trans x9) hB5 u _ e1
          exact ⟨r2, by rw [upd_ne (fun z => by rw [z, hl9] at e3; cases e3)]; exact e3, e2⟩
        · rw [List.mem_singleton.mp h]
          exact ⟨r, by rw [upd_ne plr]; exact hp, hro⟩
      have hlen2 : (as ++ [p]).length = i + 1 := by rw [List.length_append, hlen]; rfl
      generalize (upd H9 lr (.lst ((as ++ [p]).map V.ref))) = H10 at y9 hB10 hl10 hs10 hR10 ⊢
      generalize as ++ [p] = as2 at hl10 hR10 hlen2 ⊢
      refine ⟨_, rfl, rfl, _, rfl, iteB ?_ ?_⟩
      · have ln : ((as2.map V.ref).length : Int) = ((i + 1 : Nat) : Int) := by rw [List.length_map, hlen2]
        refine ⟨_, rfl, _, rfl, _, rfl, lr, _, rfl, .inl (SqL.of hl10), b, l, _, rfl, hB10, by omega, by omega, fun j H11 j0 j1 hB11 x11 => ?_⟩
        have hl11 := x11 lr _ hl10 lb ll
        obtain ⟨u, hu, eu⟩ := pick (xs := as2) (i := j) j0 (by rw [hlen2]; omega)
        obtain ⟨r2, e1, e2⟩ := hR10 u hu
        have e3 := kb_tup x11 hB10 u _ e1
        have ulr : u ≠ lr := fun z => by rw [z, hl11] at e3; cases e3
        have ix : ixN (as2.map V.ref).length (-1) = some i := by rw [List.length_map, hlen2]; exact ixm1
        refine ⟨lr, _, j, .ref u, rfl, rfl, SqL.of hl11, atI_map eu, _, rfl, 1, rfl, lr, _, -1, i, rfl, rfl, hl11, ix, ?_⟩
        have es : (as2.map V.ref).set i (V.ref u) = (as2.set i u).map V.ref := by rw [List.map_set]
        rw [es]
        have gu : (as2.set i u)[i]? = some u := List.getElem?_set_self (by omega)
        have hs11 := x11 sr _ hs10 sb sl
        refine ⟨_, rfl, 1, rfl, lr, _, -1, .ref u, rfl, rfl, SqL.of upd_same, atm1 (n := i) (by rw [List.length_map, List.length_set, hlen2]) (by rw [List.getElem?_map, gu]; rfl), u, _, rfl, .inr (SqT.of (by rw [upd_ne ulr]; exact e3)), ?_⟩
        have l1 := e2.pos
        have l2 := e2.len
        have lr2 : (sV r2).length = r2.length := List.length_map ..
        refine ⟨_, as2.set i u, _, _, rfl, by omega, by omega, box_upd hB11 lb ll, kb_upd (y9.trans x11) nlr0, by rw [upd_ne lrs.symm]; exact hs11, upd_same, by rw [List.length_set, hlen2], fun v hv => ?_⟩
        rcases List.mem_or_eq_of_mem_set hv with h | h
        · obtain ⟨r3, f1, f2⟩ := hR10 v h
          have f3 := kb_tup x11 hB10 v _ f1
          exact ⟨r3, by rw [upd_ne (fun z => by rw [z, hl11] at f3; cases f3)]; exact f3, f2⟩
        · rw [h]
          exact ⟨r2, by rw [upd_ne ulr]; exact e3, e2⟩
      · exact ⟨_, as2, _, _, rfl, hmv2.1, hmv2.2, hB10, y9, hs10, hl10, hlen2, hR10⟩
    · rintro σ H5 ⟨mm, as, c5, c6, rfl, mm1, mm6, hB5, y5, hs5, hl5, hlen, hR5⟩
      obtain ⟨rows, g1, g2, g3⟩ := hR5.page
      exact ⟨_, rfl, k lr as rows H5 hB5 y5 nlr0 lb ll hl5 g1 g2 ⟨by omega, by omega, g3⟩ (by omega)⟩
end
end TG

namespace TGK
open TG RT
open PySem PySem.Spec PyProof.Rows L2 NdefX GenW Gx Lv EnT
abbrev s_near : Stmt := top 58
/-! ### pages near a page -/
theorem cutV_to (xs : List V) (n : Nat) : cutV xs none (some ((n : Nat) : Int)) = xs.take n := by
  unfold cutV
  rw [HT.sIx_none, HT.sIx_nat]
  simp
theorem cutV_from (xs : List V) (n : Nat) : cutV xs (some ((n : Nat) : Int)) none = xs.drop n := by
  unfold cutV
  rw [HT.sIx_none, HT.sIx_nat]
  by_cases h : n ≤ xs.length
  · rw [Nat.min_eq_left h, List.take_of_length_le]
    rw [List.length_drop]
    exact Nat.le_refl _
  · rw [Nat.min_eq_right (by omega), Nat.sub_self, List.take_zero, List.drop_eq_nil_of_le (by omega)]
theorem cutV_mid (xs : List V) {a b : Nat} (ha : a ≤ xs.length) : cutV xs (some ((a : Nat) : Int)) (some ((b : Nat) : Int)) = (xs.drop a).take (b - a) := by
  unfold cutV
  rw [HT.sIx_nat, HT.sIx_nat, Nat.min_eq_left ha]
  by_cases h : b ≤ xs.length
  · rw [Nat.min_eq_left h]
  · rw [Nat.min_eq_right (by omega), List.take_of_length_le (by rw [List.length_drop]; exact Nat.le_refl _), List.take_of_length_le (by rw [List.length_drop]; omega)]
abbrev RwP := Addr × List Str
abbrev rV0 (p : RwP) : V := .ref p.1
/-- a list of rows under way -/
structure Nr (H0 : Hp) (b l r : Addr) (ps ex : List RwP) (H : Hp) : Prop where
  box : BoxAt H b l
  kb : KB b l H0 H
  nr : H0 r = none
  rb : r ≠ b
  rl : r ≠ l
  lst : H r = some (.lst (ps.map rV0))
  row : ∀ p, p ∈ ps ∨ p ∈ ex → H p.1 = some (.tup (sV p.2)) ∧ RowOk p.2
  pos : 1 ≤ ps.length
  len : ps.length ≤ 30
theorem Nr.go {H0 H H' : Hp} {b l r : Addr} {ps ex : List RwP} (o : Nr H0 b l r ps ex H) (x : KB b l H H') (hB : BoxAt H' b l) : Nr H0 b l r ps ex H' :=
  ⟨hB, o.kb.trans x, o.nr, o.rb, o.rl, x _ _ o.lst o.rb o.rl, fun p hp => ⟨kb_tup x o.box _ _ (o.row p hp).1, (o.row p hp).2⟩, o.pos, o.len⟩
theorem Nr.al {H0 H : Hp} {b l r c : Addr} {ps ex : List RwP} {u : HO} (o : Nr H0 b l r ps ex H) (n : H c = none) : Nr H0 b l r ps ex (upd H c u) := o.go (kb_new n) (box_new o.box n)
theorem Nr.put {H0 H : Hp} {b l r : Addr} {ps ex qs : List RwP} (o : Nr H0 b l r ps ex H) (h : ∀ p ∈ qs, p ∈ ps ∨ p ∈ ex) (h1 : 1 ≤ qs.length) (h2 : qs.length ≤ 30) : Nr H0 b l r qs [] (upd H r (.lst (qs.map rV0))) :=
  ⟨box_upd o.box o.rb o.rl, kb_upd o.kb o.nr, o.nr, o.rb, o.rl, upd_same, fun p hp => (by
    rcases hp with hp | hp
    · obtain ⟨a, c⟩ := o.row p (h p hp)
      exact ⟨by rw [upd_ne (fun e => by rw [e, o.lst] at a; cases a)]; exact a, c⟩
    · cases hp), h1, h2⟩
theorem Nr.new {H0 H : Hp} {b l r s : Addr} {ps ex qs : List RwP} (o : Nr H0 b l r ps ex H) (n : H s = none) (h : ∀ p ∈ qs, p ∈ ps ∨ p ∈ ex) (h1 : 1 ≤ qs.length) (h2 : qs.length ≤ 30) : Nr H0 b l s qs [] (upd H s (.lst (qs.map rV0))) :=
  ⟨box_new o.box n, o.kb.trans (kb_new n), new_old o.kb o.box n, (new_ne o.box n).1, (new_ne o.box n).2, upd_same, fun p hp => (by
    rcases hp with hp | hp
    · obtain ⟨a, c⟩ := o.row p (h p hp)
      exact ⟨by rw [upd_ne (fun e => by rw [e, n] at a; cases a)]; exact a, c⟩
    · cases hp), h1, h2⟩
theorem Nr.less {H0 H : Hp} {b l r : Addr} {ps ex : List RwP} (o : Nr H0 b l r ps ex H) : Nr H0 b l r ps [] H :=
  ⟨o.box, o.kb, o.nr, o.rb, o.rl, o.lst, fun p hp => o.row p (hp.imp id fun z => by cases z), o.pos, o.len⟩
theorem Nr.more {H0 H : Hp} {b l r : Addr} {ps : List RwP} {q : RwP} (o : Nr H0 b l r ps [] H) (h : H q.1 = some (.tup (sV q.2)) ∧ RowOk q.2) : Nr H0 b l r ps [q] H :=
  ⟨o.box, o.kb, o.nr, o.rb, o.rl, o.lst, fun p hp => hp.elim (fun z => o.row p (.inl z)) fun z => by rw [List.mem_singleton.mp z]; exact h, o.pos, o.len⟩
/-- a list beside the box -/
def Lk (b l : Addr) (H : Hp) (p : Addr) (xs : List V) : Prop := H p = some (.lst xs) ∧ p ≠ b ∧ p ≠ l
theorem Lk.go {b l p : Addr} {H H' : Hp} {xs : List V} (h : Lk b l H p xs) (x : KB b l H H') : Lk b l H' p xs := ⟨x _ _ h.1 h.2.1 h.2.2, h.2⟩
theorem Lk.new {b l p : Addr} {H : Hp} {xs : List V} (hB : BoxAt H b l) (n : H p = none) : Lk b l (upd H p (.lst xs)) p xs := ⟨upd_same, new_ne hB n⟩
theorem ixN_at {n j : Nat} (hj : j < n) : ixN n (j : Int) = some j := by
  unfold ixN
  rw [if_pos (by omega), if_pos (by omega)]
  simp
theorem erase_map (ps : List RwP) (k : Nat) : (ps.map rV0).eraseIdx k = (ps.eraseIdx k).map rV0 := by
  rw [List.eraseIdx_eq_take_drop_succ, List.eraseIdx_eq_take_drop_succ, List.map_append, List.map_take, List.map_drop]
section
variable {P : Program} {w : World} {K : PySem.W.Frag} {mg : Str → Option Value} {base : Heap} {cs : List (Addr × Addr)}
def spNear (K : PySem.W.Frag) : Sp := fun vs H Q _ => ∃ (b l pg : Addr) (as : List Addr) (rows : List (List Str)), vs = [.ref b, .ref pg] ∧ BoxAt H b l ∧ H pg = some (.lst (as.map V.ref)) ∧ pg ≠ b ∧ pg ≠ l ∧ as.length = rows.length ∧ (∀ (i : Nat) (q : Addr) (r : List Str), as[i]? = some q → rows[i]? = some r → H q = some (.tup (sV r))) ∧ PgOk rows ∧
  ∀ (p : Addr) (as' : List Addr) (rows' : List (List Str)) (H' : Hp), BoxAt H' b l → KB b l H H' → H p = none → p ≠ b → p ≠ l → H' p = some (.lst (as'.map V.ref)) → as'.length = rows'.length → (∀ (i : Nat) (q : Addr) (r : List Str), as'[i]? = some q → rows'[i]? = some r → H' q = some (.tup (sV r))) → PgOk rows' → Q (.ref p) H'
abbrev nmNear : List Str := ["_law_box", "_law_page_here", "_law_rows", "_law_turn", "_law_k", "_law_way", "_law_new"]
theorem sc_near : FnScope nmNear ["_law_box", "_law_page_here"] (defScope s_near) := ⟨rfl, rfl, rfl, by decide +kernel, rfl, by decide +kernel, by decide +kernel⟩
theorem ok_near {f gG gW : Addr} {fd fdG fdW : FuncData} (T : Txt mg) (F : Fun K "_law_near" "_law_near" s_near f fd)
    (G : FnOk P w K mg base CX0 1 gG fdG ["_law_box", "_law_many"] spTake) (kG : PySem.W.keepIn K (.ref gG) = true) (bG : Binds K fdG ["_law_box", "_law_many"] []) (mG : mg "_law_take" = some (.ref gG))
    (W : FnOk P w K mg base CX0 4 gW fdW ["_law_box", "_law_sorts", "_law_many"] spRowD) (kW : PySem.W.keepIn K (.ref gW) = true) (bW : Binds K fdW ["_law_box", "_law_sorts", "_law_many"] []) (mW : mg "_law_row" = some (.ref gW)) :
    FnOk P w K mg base CX0 5 f fd ["_law_box", "_law_page_here"] (spNear K) := by
  refine F.ok sc_near (fun vs H Q E h => ?_) (fun cdv A outer s H vs Q E hr h => ?_)
  · obtain ⟨b, l, pg, _, _, rfl, _⟩ := h
    rfl
  · obtain ⟨b, l, pg, as, rows, rfl, hB, hp, pb, pl, hlen, hrow, gP, k⟩ := h
    have nd := sc_near.nd
    have r1 : Room 1 _ := hr.mono (by decide)
    have r4 : Room 4 _ := hr.mono (by decide)
    have szl : (9000 : Nat) < sizeLine := by decide
    refine ⟨_, (pss_cons (ps_set (i := 2) nd rfl (.inl rfl) (pe_callTy call_list_of (by rfl) T.list (by decide +kernel) (pa_cons (pv 1) pa_nil)))
      (pss_cons (ps_for PassesOwn.never rfl (pi_range1 (by rfl) T.range (pa_cons (pe_call G r1 (by rfl) mG kG bG .nil pass0 (pa_cons (pv 0) (pa_cons pe_int pa_nil))) pa_nil)) (pg_name (i := 3) nd rfl (.inl rfl))
      (pss_cons (ps_par (i := 4) (j := 5) rfl nd rfl rfl (by decide) rfl rfl (pa_cons (pe_call G r1 (by rfl) mG kG bG .nil pass0 (pa_cons (pv 0) (pa_cons (pe_callB call_len_seq (by rfl) T.len PySem.boot_len (pa_cons (pv 2) pa_nil)) pa_nil))) (pa_cons (pe_call G r1 (by rfl) mG kG bG .nil pass0 (pa_cons (pv 0) (pa_cons pe_int pa_nil))) pa_nil)) (by rfl))
      (pss_cons (ps_set (i := 6) nd rfl (.inl rfl) (pe_call W r4 (by rfl) mW kW bW .nil pass0 (pa_cons (pv 0) (pa_cons (pe_lst (pa_cons pe_int (pa_cons pe_int (pa_cons pe_int (pa_cons pe_int (pa_cons pe_int (pa_cons pe_int pa_nil))))))) (pa_cons (pe_op op_add pe_int (pe_call G r1 (by rfl) mG kG bG .nil pass0 (pa_cons (pv 0) (pa_cons pe_int pa_nil)))) pa_nil)))))
      (pss_cons (ps_if (pt_cmpR op_eq (pv 5) pe_int (nomark _)) (pss_one (ps_asg (pv 6) (pg_sub (pv 2) (pv 4) set_list))) pss_nil)
      (pss_cons (ps_if (PW.pt (pw_and (pt_cmpR op_eq (pv 5) pe_int (nomark _)) (pw_and1 (pt_cmpR op_lt (pe_callB call_len_seq (by rfl) T.len PySem.boot_len (pa_cons (pv 2) pa_nil)) pe_int (nomark _))))) (pss_one (ps_set (i := 2) nd rfl (.inl rfl) (pe_op op_cat (pe_op op_cat (pe_slice sl_list (pv 2) po_none (po_some (pv 4))) (pe_lst (pa_cons (pe_ix ix_list (pe_lst (pa_cons (pv 6) (pa_cons (pe_ix ix_list (pv 2) (pv 4) (fun _ _ => rfl)) pa_nil))) (pe_call G r1 (by rfl) mG kG bG .nil pass0 (pa_cons (pv 0) (pa_cons pe_int pa_nil))) (fun _ _ => rfl)) pa_nil))) (pe_slice sl_list (pv 2) (po_some (pv 4)) po_none)))) pss_nil)
      (pss_cons (ps_if (PW.pt (pw_and (pt_cmpR op_eq (pv 5) pe_int (nomark _)) (pw_and1 (pt_cmpR op_gt (pe_callB call_len_seq (by rfl) T.len PySem.boot_len (pa_cons (pv 2) pa_nil)) pe_int (nomark _))))) (pss_one (ps_expr (pe_bm PySem.F.plainAttrs_list PySem.F.slot_list_pop PySem.F.type_list_pop mt_popAt (pv 2) (pa_cons (pv 4) pa_nil)))) pss_nil)
      (pss_cons (ps_if (pt_cmpR op_eq (pv 5) pe_int (nomark _)) (pss_one (ps_set (i := 2) nd rfl (.inl rfl) (pe_op op_cat (pe_op op_cat (pe_slice sl_list (pv 2) po_none (po_some (pv 4))) (pe_revL (pe_slice sl_list (pv 2) (po_some (pv 4)) (po_some (pe_op op_add (pv 4) pe_int))))) (pe_slice sl_list (pv 2) (po_some (pe_op op_add (pv 4) pe_int)) po_none)))) pss_nil)
      (pss_one (ps_if (pt_cmpR op_eq (pv 5) pe_int (nomark _)) (pss_one (ps_set (i := 2) nd rfl (.inl rfl) (pe_op op_cat (pe_slice sl_list (pv 2) (po_some (pv 4)) po_none) (pe_slice sl_list (pv 2) po_none (po_some (pv 4)))))) pss_nil)))))))))
      (pss_one (ps_ret (pv 2))))), ?_⟩
    refine ⟨_, rfl, pg, _, rfl, .inl (SqL.of hp), fun r0 nr0 => ?_⟩
    have o0 : Nr H b l r0 (as.zip rows) [] (upd H r0 (.lst (as.map V.ref))) := by
      have ez : (as.zip rows).map rV0 = as.map V.ref := by
        rw [show (rV0 : RwP → V) = V.ref ∘ Prod.fst from rfl, ← List.map_map, List.map_fst_zip (by omega)]
      refine ⟨box_new hB nr0, kb_new nr0, nr0, (new_ne hB nr0).1, (new_ne hB nr0).2, by rw [ez]; exact upd_same, fun p hp => ?_, ?_, ?_⟩
      · rcases hp with hp | hp
        · obtain ⟨i, hi⟩ := List.mem_iff_getElem?.mp hp
          rw [List.getElem?_zip_eq_some] at hi
          have e := hrow i _ _ hi.1 hi.2
          exact ⟨by rw [upd_ne (fun z => by rw [z, nr0] at e; cases e)]; exact e, gP.rows _ (List.mem_of_getElem? hi.2)⟩
        · cases hp
      · rw [List.length_zip, hlen, Nat.min_self]; exact gP.pos
      · rw [List.length_zip, hlen, Nat.min_self]; exact gP.len
    generalize upd H r0 (.lst (as.map V.ref)) = H1 at o0 ⊢
    refine ⟨_, rfl, b, l, 6, rfl, o0.box, by decide, by decide, fun tt H2 t0 t1 hB2 x2 => ⟨tt, rfl, by omega, by omega, ?_⟩⟩
    have o0 := o0.go x2 hB2
    refine for_range (n := tt.toNat) (fun i σ H' => ∃ (r : Addr) (ps : List RwP) (c3 c4 c5 c6 : Option V), σ = [some (.ref b), some (.ref pg), some (.ref r), c3, c4, c5, c6] ∧ Nr H b l r ps [] H') ⟨r0, _, none, none, none, none, rfl, o0⟩ ?_ ?_
    rotate_left
    · rintro σ H3 ⟨r, ps, c3, c4, c5, c6, rfl, o⟩
      refine ⟨_, rfl, k r (ps.map (·.1)) (ps.map (·.2)) H3 o.box o.kb o.nr o.rb o.rl (by rw [o.lst, List.map_map]; rfl) (by rw [List.length_map, List.length_map]) (fun i q r' e1 e2 => ?_) ⟨by rw [List.length_map]; exact o.pos, by rw [List.length_map]; exact o.len, fun r' hr' => ?_⟩⟩
      · obtain ⟨p, hp, rfl⟩ := get_map e1
        rw [List.getElem?_map, hp] at e2
        cases e2
        exact (o.row p (.inl (List.mem_of_getElem? hp))).1
      · obtain ⟨p, hp, rfl⟩ := List.mem_map.mp hr'
        exact (o.row p (.inl hp)).2
    clear k
    rintro i σ H3 hi ⟨r, ps, c3, c4, c5, c6, rfl, o⟩
    have ol := o.len
    have op := o.pos
    have lm : (ps.map rV0).length = ps.length := List.length_map ..
    refine ⟨_, rfl, _, rfl, r, _, rfl, .inl (SqL.of o.lst), b, l, _, rfl, o.box, by omega, by omega, fun kk H4 k0 k1 hB4 x4 => ?_⟩
    have o := o.go x4 hB4
    refine ⟨_, rfl, b, l, 5, rfl, o.box, by decide, by decide, fun w H5 w0 w1 hB5 x5 => ⟨_, _, rfl, ?_⟩⟩
    have o := o.go x5 hB5
    obtain ⟨k, rfl⟩ := Int.eq_ofNat_of_zero_le k0
    have hk : k < ps.length := by omega
    refine ⟨_, rfl, by show 6 ≤ sizeLine; decide, fun sl nsl => ?_⟩
    have fs := Lk.new (xs := [0, 1, 0, 1, 0, 1].map V.int) o.box nsl
    have o := o.al (u := .lst ([0, 1, 0, 1, 0, 1].map V.int)) nsl
    refine ⟨_, rfl, b, l, 6, rfl, o.box, by decide, by decide, fun m H6 m0 m1 hB6 x6 => ⟨1, m, rfl, rfl, ?_⟩⟩
    have o := o.go x6 hB6
    have fs := fs.go x6
    refine ⟨b, l, sl, [0, 1, 0, 1, 0, 1], 1 + m, rfl, o.box, fs.1, rfl, fs.2.1, fs.2.2, by omega, by omega, fun q rw_ H7 hB7 x7 nq hq hro => ?_⟩
    have o := (o.go x7 hB7).more (q := (q, rw_)) ⟨hq, hro⟩
    clear fs nsl x4 x5 x6 x7 hB4 hB5 hB6 hB7 nq hq hro o0 x2 hB2
    rename_i H4' H5' H6'
    clear k1 k0 m0 m1
    generalize H7 = H4 at o ⊢
    rcases (by omega : w = 0 ∨ w = 1 ∨ w = 2 ∨ w = 3 ∨ w = 4) with rfl | rfl | rfl | rfl | rfl
    · refine ⟨_, rfl, rfl, true, dT rfl, iteT ⟨_, rfl, _, rfl, _, rfl, r, _, ((k : Nat) : Int), k, rfl, rfl, o.lst, ixN_at (by rw [List.length_map]; exact hk), ?_⟩⟩
      have eq : (ps.map rV0).set k (.ref q) = (ps.set k (q, rw_)).map rV0 := by rw [List.map_set]
      rw [eq]
      have o := o.put (qs := ps.set k (q, rw_)) (fun p hp => (List.mem_or_eq_of_mem_set hp).imp id fun e => by rw [e]; exact List.mem_singleton.mpr rfl) (by rw [List.length_set]; exact o.pos) (by rw [List.length_set]; exact o.len)
      refine ⟨_, rfl, rfl, false, dF (by decide), iteF ?_⟩
      refine ⟨_, rfl, rfl, false, dF (by decide), iteF ?_⟩
      refine ⟨_, rfl, rfl, false, dF (by decide), iteF ?_⟩
      refine ⟨_, rfl, rfl, false, dF (by decide), iteF ?_⟩
      exact ⟨_, _, _, _, _, _, rfl, o⟩
    · refine ⟨_, rfl, rfl, false, dF (by decide), iteF ?_⟩
      by_cases c30 : ps.length < 30
      · refine ⟨_, rfl, rfl, true, dT rfl, iteT ⟨_, rfl, r, _, rfl, .inl (SqL.of o.lst), _, _, rfl, rfl, true, dT (by rw [List.length_map]; omega), iteT ?_⟩⟩
        refine ⟨_, rfl, _, rfl, ((k : Nat) : Int), rfl, r, _, rfl, SqL.of o.lst, fun p1 np1 => ?_⟩
        rw [cutV_to, ← List.map_take]
        have fp1 := Lk.new (xs := (ps.take k).map rV0) o.box np1
        have o := o.al (u := .lst ((ps.take k).map rV0)) np1
        generalize hG : upd H4 p1 (.lst ((ps.take k).map rV0)) = H5 at *
        clear hG
        obtain ⟨pk, hpk⟩ : ∃ p, ps[k]? = some p := ⟨_, List.getElem?_eq_getElem hk⟩
        have hpv : (ps.map rV0)[k]? = some (.ref pk.1) := by rw [List.getElem?_map, hpk]; rfl
        refine ⟨_, rfl, _, rfl, _, rfl, r, _, ((k : Nat) : Int), .ref pk.1, rfl, rfl, SqL.of o.lst, atI_nat hpv, by show 2 ≤ sizeLine; decide, fun p2 np2 => ?_⟩
        have fp2 := Lk.new (xs := [V.ref q, V.ref pk.1]) o.box np2
        have fp1 := fp1.go (kb_new (o := .lst ([V.ref q, V.ref pk.1])) np2)
        have o := o.al (u := .lst ([V.ref q, V.ref pk.1])) np2
        generalize hG : upd H5 p2 (.lst ([V.ref q, V.ref pk.1])) = H6 at *
        clear hG
        refine ⟨_, rfl, b, l, 2, rfl, o.box, by decide, by decide, fun t H7 t0 t1 hB7 x7 => ?_⟩
        have o := o.go x7 hB7
        have fp1 := fp1.go x7
        have fp2 := fp2.go x7
        obtain ⟨u, hu, eu⟩ := pick (xs := [((q, rw_) : RwP), pk]) (i := t) t0 t1
        have hu2 : u ∈ ps ∨ u ∈ [((q, rw_) : RwP)] := by
          simp only [List.mem_cons, List.not_mem_nil, or_false] at hu
          rcases hu with e | e
          · exact .inr (by rw [e]; exact List.mem_singleton.mpr rfl)
          · exact .inl (by rw [e]; exact List.mem_of_getElem? hpk)
        refine ⟨p2, _, t, .ref u.1, rfl, rfl, SqL.of fp2.1, atI_map (f := rV0) eu, by show 1 ≤ sizeLine; decide, fun p3 np3 => ?_⟩
        have fp3 := Lk.new (xs := [V.ref u.1]) o.box np3
        have fp1 := fp1.go (kb_new (o := .lst ([V.ref u.1])) np3)
        have fp2 := fp2.go (kb_new (o := .lst ([V.ref u.1])) np3)
        have o := o.al (u := .lst ([V.ref u.1])) np3
        generalize hG : upd H7 p3 (.lst ([V.ref u.1])) = H8 at *
        clear hG
        refine ⟨p1, p3, _, _, rfl, rfl, fp1.1, fp3.1, by simp only [List.length_append, List.length_map, List.length_take, List.length_drop, List.length_cons, List.length_nil, List.length_reverse]; omega, fun p4 np4 => ?_⟩
        have fp4 := Lk.new (xs := (ps.take k).map rV0 ++ [V.ref u.1]) o.box np4
        have fp1 := fp1.go (kb_new (o := .lst ((ps.take k).map rV0 ++ [V.ref u.1])) np4)
        have fp2 := fp2.go (kb_new (o := .lst ((ps.take k).map rV0 ++ [V.ref u.1])) np4)
        have fp3 := fp3.go (kb_new (o := .lst ((ps.take k).map rV0 ++ [V.ref u.1])) np4)
        have o := o.al (u := .lst ((ps.take k).map rV0 ++ [V.ref u.1])) np4
        generalize hG : upd H8 p4 (.lst ((ps.take k).map rV0 ++ [V.ref u.1])) = H9 at *
        clear hG
        refine ⟨_, rfl, _, rfl, ((k : Nat) : Int), rfl, r, _, rfl, SqL.of o.lst, fun p5 np5 => ?_⟩
        rw [cutV_from, ← List.map_drop]
        have fp5 := Lk.new (xs := (ps.drop k).map rV0) o.box np5
        have fp1 := fp1.go (kb_new (o := .lst ((ps.drop k).map rV0)) np5)
        have fp2 := fp2.go (kb_new (o := .lst ((ps.drop k).map rV0)) np5)
        have fp3 := fp3.go (kb_new (o := .lst ((ps.drop k).map rV0)) np5)
        have fp4 := fp4.go (kb_new (o := .lst ((ps.drop k).map rV0)) np5)
        have o := o.al (u := .lst ((ps.drop k).map rV0)) np5
        generalize hG : upd H9 p5 (.lst ((ps.drop k).map rV0)) = H10 at *
        clear hG
        have ol := o.len
        have op := o.pos
        refine ⟨p4, p5, _, _, rfl, rfl, fp4.1, fp5.1, by simp only [List.length_append, List.length_map, List.length_take, List.length_drop, List.length_cons, List.length_nil, List.length_reverse]; omega, fun p6 np6 => ?_⟩
        have eq : (ps.take k).map rV0 ++ [V.ref u.1] ++ (ps.drop k).map rV0 = (ps.take k ++ [u] ++ ps.drop k).map rV0 := by simp only [List.map_append, List.map_take, List.map_drop, List.map_reverse, List.map_cons, List.map_nil]
        rw [eq]
        have o := o.new (qs := ps.take k ++ [u] ++ ps.drop k) np6 (fun p hp => ?_) ?_ ?_
        rotate_left
        · rcases List.mem_append.mp hp with hp | hp
          · rcases List.mem_append.mp hp with hp | hp
            · exact .inl (List.mem_of_mem_take hp)
            · exact (by rw [List.mem_singleton.mp hp]; exact hu2)
          · exact .inl (List.mem_of_mem_drop hp)
        · simp only [List.length_append, List.length_take, List.length_drop, List.length_cons, List.length_nil, List.length_reverse]; omega
        · simp only [List.length_append, List.length_take, List.length_drop, List.length_cons, List.length_nil, List.length_reverse]; omega
        refine ⟨_, rfl, rfl, false, dF (by decide), iteF ?_⟩
        refine ⟨_, rfl, rfl, false, dF (by decide), iteF ?_⟩
        refine ⟨_, rfl, rfl, false, dF (by decide), iteF ?_⟩
        exact ⟨_, _, _, _, _, _, rfl, o⟩
      · refine ⟨_, rfl, rfl, true, dT rfl, iteT ⟨_, rfl, r, _, rfl, .inl (SqL.of o.lst), _, _, rfl, rfl, false, dF (by rw [List.length_map]; omega), iteF ?_⟩⟩
        refine ⟨_, rfl, rfl, false, dF (by decide), iteF ?_⟩
        refine ⟨_, rfl, rfl, false, dF (by decide), iteF ?_⟩
        refine ⟨_, rfl, rfl, false, dF (by decide), iteF ?_⟩
        exact ⟨_, _, _, _, _, _, rfl, o.less⟩
    · refine ⟨_, rfl, rfl, false, dF (by decide), iteF ?_⟩
      refine ⟨_, rfl, rfl, false, dF (by decide), iteF ?_⟩
      by_cases c1 : 1 < ps.length
      · refine ⟨_, rfl, rfl, true, dT rfl, iteT ⟨_, rfl, r, _, rfl, .inl (SqL.of o.lst), _, _, rfl, rfl, true, dT (by rw [List.length_map]; omega), iteT ?_⟩⟩
        obtain ⟨pk, hpk⟩ : ∃ p, ps[k]? = some p := ⟨_, List.getElem?_eq_getElem hk⟩
        have hpv : (ps.map rV0)[k]? = some (.ref pk.1) := by rw [List.getElem?_map, hpk]; rfl
        have ol := o.len
        refine ⟨_, rfl, .inl ⟨rfl, _, SqL.of o.lst⟩, _, rfl, r, _, ((k : Nat) : Int), k, .ref pk.1, rfl, rfl, o.lst, by omega, by omega, (ixN_seq (ixN_at (by rw [List.length_map]; exact hk))).1, hpv, ?_⟩
        have eq : (ps.map rV0).eraseIdx k = (ps.eraseIdx k).map rV0 := erase_map ps k
        rw [eq]
        have le := List.length_eraseIdx_of_lt hk
        have o := o.put (qs := ps.eraseIdx k) (fun p hp => .inl (List.mem_of_mem_eraseIdx hp)) (by omega) (by omega)
        refine ⟨_, rfl, rfl, false, dF (by decide), iteF ?_⟩
        refine ⟨_, rfl, rfl, false, dF (by decide), iteF ?_⟩
        exact ⟨_, _, _, _, _, _, rfl, o⟩
      · refine ⟨_, rfl, rfl, true, dT rfl, iteT ⟨_, rfl, r, _, rfl, .inl (SqL.of o.lst), _, _, rfl, rfl, false, dF (by rw [List.length_map]; omega), iteF ?_⟩⟩
        refine ⟨_, rfl, rfl, false, dF (by decide), iteF ?_⟩
        refine ⟨_, rfl, rfl, false, dF (by decide), iteF ?_⟩
        exact ⟨_, _, _, _, _, _, rfl, o.less⟩
    · refine ⟨_, rfl, rfl, false, dF (by decide), iteF ?_⟩
      refine ⟨_, rfl, rfl, false, dF (by decide), iteF ?_⟩
      refine ⟨_, rfl, rfl, false, dF (by decide), iteF ?_⟩
      refine ⟨_, rfl, rfl, true, dT rfl, iteT ⟨_, rfl, _, rfl, ((k : Nat) : Int), rfl, r, _, rfl, SqL.of o.lst, fun p1 np1 => ?_⟩⟩
      rw [cutV_to, ← List.map_take]
      have fp1 := Lk.new (xs := (ps.take k).map rV0) o.box np1
      have o := o.al (u := .lst ((ps.take k).map rV0)) np1
      generalize hG : upd H4 p1 (.lst ((ps.take k).map rV0)) = H5 at *
      clear hG
      refine ⟨_, rfl, _, rfl, ((k : Nat) : Int), rfl, _, rfl, _, _, rfl, rfl, ((k + 2 : Nat) : Int), rfl, r, _, rfl, SqL.of o.lst, fun p2 np2 => ?_⟩
      rw [cutV_mid _ (by rw [List.length_map]; omega), Nat.add_sub_cancel_left, ← List.map_drop, ← List.map_take]
      have fp2 := Lk.new (xs := ((ps.drop k).take 2).map rV0) o.box np2
      have fp1 := fp1.go (kb_new (o := .lst (((ps.drop k).take 2).map rV0)) np2)
      have o := o.al (u := .lst (((ps.drop k).take 2).map rV0)) np2
      generalize hG : upd H5 p2 (.lst (((ps.drop k).take 2).map rV0)) = H6 at *
      clear hG
      refine ⟨p2, _, rfl, SqL.of fp2.1, fun p3 np3 => ?_⟩
      have fp3 := Lk.new (xs := (((ps.drop k).take 2).map rV0).reverse) o.box np3
      have fp1 := fp1.go (kb_new (o := .lst ((((ps.drop k).take 2).map rV0).reverse)) np3)
      have fp2 := fp2.go (kb_new (o := .lst ((((ps.drop k).take 2).map rV0).reverse)) np3)
      have o := o.al (u := .lst ((((ps.drop k).take 2).map rV0).reverse)) np3
      generalize hG : upd H6 p3 (.lst ((((ps.drop k).take 2).map rV0).reverse)) = H7 at *
      clear hG
      refine ⟨p1, p3, _, _, rfl, rfl, fp1.1, fp3.1, by simp only [List.length_append, List.length_map, List.length_take, List.length_drop, List.length_cons, List.length_nil, List.length_reverse]; omega, fun p4 np4 => ?_⟩
      have fp4 := Lk.new (xs := (ps.take k).map rV0 ++ (((ps.drop k).take 2).map rV0).reverse) o.box np4
      have fp1 := fp1.go (kb_new (o := .lst ((ps.take k).map rV0 ++ (((ps.drop k).take 2).map rV0).reverse)) np4)
      have fp2 := fp2.go (kb_new (o := .lst ((ps.take k).map rV0 ++ (((ps.drop k).take 2).map rV0).reverse)) np4)
      have fp3 := fp3.go (kb_new (o := .lst ((ps.take k).map rV0 ++ (((ps.drop k).take 2).map rV0).reverse)) np4)
      have o := o.al (u := .lst ((ps.take k).map rV0 ++ (((ps.drop k).take 2).map rV0).reverse)) np4
      generalize hG : upd H7 p4 (.lst ((ps.take k).map rV0 ++ (((ps.drop k).take 2).map rV0).reverse)) = H8 at *
      clear hG
      refine ⟨_, rfl, _, rfl, _, _, rfl, rfl, ((k + 2 : Nat) : Int), rfl, r, _, rfl, SqL.of o.lst, fun p5 np5 => ?_⟩
      rw [cutV_from, ← List.map_drop]
      have fp5 := Lk.new (xs := (ps.drop (k + 2)).map rV0) o.box np5
      have fp1 := fp1.go (kb_new (o := .lst ((ps.drop (k + 2)).map rV0)) np5)
      have fp2 := fp2.go (kb_new (o := .lst ((ps.drop (k + 2)).map rV0)) np5)
      have fp3 := fp3.go (kb_new (o := .lst ((ps.drop (k + 2)).map rV0)) np5)
      have fp4 := fp4.go (kb_new (o := .lst ((ps.drop (k + 2)).map rV0)) np5)
      have o := o.al (u := .lst ((ps.drop (k + 2)).map rV0)) np5
      generalize hG : upd H8 p5 (.lst ((ps.drop (k + 2)).map rV0)) = H9 at *
      clear hG
      have ol := o.len
      have op := o.pos
      refine ⟨p4, p5, _, _, rfl, rfl, fp4.1, fp5.1, by simp only [List.length_append, List.length_map, List.length_take, List.length_drop, List.length_cons, List.length_nil, List.length_reverse]; omega, fun p6 np6 => ?_⟩
      have eq : (ps.take k).map rV0 ++ (((ps.drop k).take 2).map rV0).reverse ++ (ps.drop (k + 2)).map rV0 = (ps.take k ++ ((ps.drop k).take 2).reverse ++ ps.drop (k + 2)).map rV0 := by simp only [List.map_append, List.map_take, List.map_drop, List.map_reverse, List.map_cons, List.map_nil]
      rw [eq]
      have o := o.new (qs := ps.take k ++ ((ps.drop k).take 2).reverse ++ ps.drop (k + 2)) np6 (fun p hp => ?_) ?_ ?_
      rotate_left
      · rcases List.mem_append.mp hp with hp | hp
        · rcases List.mem_append.mp hp with hp | hp
          · exact .inl (List.mem_of_mem_take hp)
          · exact .inl (List.mem_of_mem_drop (List.mem_of_mem_take (List.mem_reverse.mp hp)))
        · exact .inl (List.mem_of_mem_drop hp)
      · simp only [List.length_append, List.length_take, List.length_drop, List.length_cons, List.length_nil, List.length_reverse]; omega
      · simp only [List.length_append, List.length_take, List.length_drop, List.length_cons, List.length_nil, List.length_reverse]; omega
      refine ⟨_, rfl, rfl, false, dF (by decide), iteF ?_⟩
      exact ⟨_, _, _, _, _, _, rfl, o⟩
    · refine ⟨_, rfl, rfl, false, dF (by decide), iteF ?_⟩
      refine ⟨_, rfl, rfl, false, dF (by decide), iteF ?_⟩
      refine ⟨_, rfl, rfl, false, dF (by decide), iteF ?_⟩
      refine ⟨_, rfl, rfl, false, dF (by decide), iteF ?_⟩
      refine ⟨_, rfl, rfl, true, dT rfl, iteT ⟨_, rfl, _, rfl, ((k : Nat) : Int), rfl, r, _, rfl, SqL.of o.lst, fun p1 np1 => ?_⟩⟩
      rw [cutV_from, ← List.map_drop]
      have fp1 := Lk.new (xs := (ps.drop k).map rV0) o.box np1
      have o := o.al (u := .lst ((ps.drop k).map rV0)) np1
      generalize hG : upd H4 p1 (.lst ((ps.drop k).map rV0)) = H5 at *
      clear hG
      refine ⟨_, rfl, _, rfl, ((k : Nat) : Int), rfl, r, _, rfl, SqL.of o.lst, fun p2 np2 => ?_⟩
      rw [cutV_to, ← List.map_take]
      have fp2 := Lk.new (xs := (ps.take k).map rV0) o.box np2
      have fp1 := fp1.go (kb_new (o := .lst ((ps.take k).map rV0)) np2)
      have o := o.al (u := .lst ((ps.take k).map rV0)) np2
      generalize hG : upd H5 p2 (.lst ((ps.take k).map rV0)) = H6 at *
      clear hG
      have ol := o.len
      have op := o.pos
      refine ⟨p1, p2, _, _, rfl, rfl, fp1.1, fp2.1, by simp only [List.length_append, List.length_map, List.length_take, List.length_drop, List.length_cons, List.length_nil, List.length_reverse]; omega, fun p6 np6 => ?_⟩
      have eq : (ps.drop k).map rV0 ++ (ps.take k).map rV0 = (ps.drop k ++ ps.take k).map rV0 := by simp only [List.map_append, List.map_take, List.map_drop, List.map_reverse, List.map_cons, List.map_nil]
      rw [eq]
      have o := o.new (qs := ps.drop k ++ ps.take k) np6 (fun p hp => ?_) ?_ ?_
      rotate_left
      · rcases List.mem_append.mp hp with hp | hp
        · exact .inl (List.mem_of_mem_drop hp)
        · exact .inl (List.mem_of_mem_take hp)
      · simp only [List.length_append, List.length_take, List.length_drop]; omega
      · simp only [List.length_append, List.length_take, List.length_drop]; omega
      exact ⟨_, _, _, _, _, _, rfl, o⟩
end
end TGK

namespace TGK
open TG RT
open PySem PySem.Spec PyProof.Rows L2 NdefX GenW Gx Lv EnT
/-! ### steps as data, pages as data -/
def rowDt (r : List Str) : PyData := .tuple (r.map .str)
def stpD : Deed → PyData
  | .put n r => .tuple [.str "put", .int (n : Nat), rowDt r]
  | .take n => .tuple [.str "take", .int (n : Nat)]
  | .change n r => .tuple [.str "change", .int (n : Nat), rowDt r]
  | _ => .none
def StpOk : Deed → Prop
  | .put _ r => RowOk r
  | .take _ => True
  | .change _ r => RowOk r
  | _ => False
theorem canAll_row {r : List Str} (h : RowOk r) : PyData.canLayAll0 (r.map .str) = true := canAll_strs fun z hz => (h.cells z hz).2
theorem str_can : ∀ z ∈ (["put", "take", "change"] : List Str), PyData.canLay0 (.str z) = true := fun z hz => by
  have := canAll_strs (zs := [z]) fun y hy => by
    rw [List.mem_singleton.mp hy]
    simp only [List.mem_cons, List.not_mem_nil, or_false] at hz
    rcases hz with e | e | e <;> rw [e] <;> exact sg_of (by decide +kernel)
  simpa only [List.map_cons, List.map_nil, PyData.canLayAll0, Bool.and_true] using this
theorem can_stp {d : Deed} (h : StpOk d) : PyData.canLay0 (stpD d) = true := by
  have p := str_can "put" (by simp)
  have t := str_can "take" (by simp)
  have c := str_can "change" (by simp)
  cases d with
  | put n r =>
    unfold stpD rowDt
    simp only [PyData.canLay0, PyData.canLayAll0, Bool.and_true, canAll_row h, Bool.true_and] at p ⊢
    exact p
  | take n =>
    unfold stpD
    simp only [PyData.canLay0, PyData.canLayAll0, Bool.and_true] at t ⊢
    exact t
  | change n r =>
    unfold stpD rowDt
    simp only [PyData.canLay0, PyData.canLayAll0, Bool.and_true, canAll_row h, Bool.true_and] at c ⊢
    exact c
  | strike n c k z => exact h.elim
  | erase n c k => exact h.elim
  | part n c k => exact h.elim
  | unite n => exact h.elim
  | back => exact h.elim
theorem can_stps : ∀ {ds : List Deed}, (∀ d ∈ ds, StpOk d) → PyData.canLayAll0 (ds.map stpD) = true
  | [], _ => rfl
  | d :: ds, h => by
    rw [List.map_cons]
    simp only [PyData.canLayAll0, can_stp (h d List.mem_cons_self), can_stps fun x hx => h x (List.mem_cons_of_mem _ hx), Bool.and_self]
theorem dep_stp (d : Deed) : (stpD d).depth ≤ 2 := by
  cases d <;> simp only [stpD, rowDt, PyData.depth, PyData.depthAll, depthAll_strs] <;> omega
theorem dep_stps : ∀ ds : List Deed, PyData.depthAll (ds.map stpD) ≤ 2
  | [] => Nat.zero_le _
  | d :: ds => by
    rw [List.map_cons]
    have := dep_stps ds
    have := dep_stp d
    simp only [PyData.depthAll]
    omega
theorem dp_stps {K : PySem.W.Frag} {H : Hp} : ∀ {xs : List V} {ds : List Deed}, xs.length = ds.length → GoodD K H xs ds → DpAll K H xs (ds.map stpD)
  | [], [], _, _ => .nil
  | [], _ :: _, h, _ => by cases h
  | _ :: _, [], h, _ => by cases h
  | x :: xs, d :: ds, h, g => by
    obtain ⟨t, e, hv⟩ := g 0 d rfl
    cases e
    refine .cons ?_ (dp_stps (by simpa using h) fun i d' e => g (i + 1) d' (by simpa using e))
    cases d with
    | put n r =>
      obtain ⟨q, h1, h2⟩ := hv
      exact .tup (SqT.of h1) (.cons (.str _) (.cons (.int _) (.cons (.tup h2 (dp_strs r)) .nil)))
    | take n => exact .tup (SqT.of hv) (.cons (.str _) (.cons (.int _) .nil))
    | change n r =>
      obtain ⟨q, h1, h2⟩ := hv
      exact .tup (SqT.of h1) (.cons (.str _) (.cons (.int _) (.cons (.tup h2 (dp_strs r)) .nil)))
    | strike n c k z => exact hv.elim
    | erase n c k => exact hv.elim
    | part n c k => exact hv.elim
    | unite n => exact hv.elim
    | back => exact hv.elim
theorem RunR.ok {K : PySem.W.Frag} {H : Hp} {gap least : Int} {xs : List V} {ds : List Deed} {Rr : Nat → List (List Str)} {L : Nat → List (List V)} (h : RunR gap least ds Rr L) (g : GoodD K H xs ds) : ∀ d ∈ ds, StpOk d := fun d hd => by
  obtain ⟨i, hi⟩ := List.getElem?_of_mem hd
  have h1 := (h i d hi).1
  obtain ⟨t, _, hv⟩ := g i d hi
  cases d with
  | put n r => exact h1.2
  | take n => trivial
  | change n r => exact h1.2
  | strike n c k z => exact hv.elim
  | erase n c k => exact hv.elim
  | part n c k => exact hv.elim
  | unite n => exact hv.elim
  | back => exact hv.elim
theorem GoodD.all {K : PySem.W.Frag} {H : Hp} {xs : List V} {ds : List Deed} (h : GoodD K H xs ds) (hl : xs.length = ds.length) : AllS H xs := fun v hv => by
  obtain ⟨i, hi⟩ := List.getElem?_of_mem hv
  have hlt := (List.getElem?_eq_some_iff.mp hi).1
  obtain ⟨t, e, hs⟩ := h i _ (List.getElem?_eq_getElem (by omega))
  rw [hi] at e
  cases e
  generalize ds[i] = d at hs
  cases d with
  | put n r =>
    obtain ⟨q, h1, h2⟩ := hs
    exact .inr ⟨t, "put", _, rfl, h1, by show 2 ≤ 100; decide, by show true = stepB "put" 3; decide +kernel⟩
  | take n => exact .inr ⟨t, "take", _, rfl, hs, by show 1 ≤ 100; decide, by show true = stepB "take" 2; decide +kernel⟩
  | change n r =>
    obtain ⟨q, h1, h2⟩ := hs
    exact .inr ⟨t, "change", _, rfl, h1, by show 2 ≤ 100; decide, by show true = stepB "change" 3; decide +kernel⟩
  | strike n c k z => exact hs.elim
  | erase n c k => exact hs.elim
  | part n c k => exact hs.elim
  | unite n => exact hs.elim
  | back => exact hs.elim
theorem eqvAll_rows : ∀ a b : List (List Str), PyData.eqvAll (rowsD a) (rowsD b) = decide (a = b)
  | [], [] => rfl
  | [], _ :: _ => rfl
  | _ :: _, [] => rfl
  | x :: a, y :: b => by
    show (PyData.eqv (.tuple (x.map .str)) (.tuple (y.map .str)) && PyData.eqvAll (rowsD a) (rowsD b)) = _
    rw [eqvAll_rows a b, eqv_row]
    by_cases h1 : x = y <;> by_cases h2 : a = b <;> simp [h1, h2]
theorem eqv_page (a b : List (List Str)) : PyData.eqv (.list (rowsD a)) (.list (rowsD b)) = decide (a = b) := by
  simp only [PyData.eqv, eqvAll_rows]
theorem eqv_stps0 (ds : List Deed) : PyData.eqv (.list (ds.map stpD)) (.list []) = decide (ds = []) := by
  cases ds with
  | nil => rfl
  | cons d ds => rfl
theorem shaped_stps {ds : List Deed} (hd : ∀ d ∈ ds, StpOk d) : SeqAt.shaped (.list (ds.map stpD)) = true := by
  unfold SeqAt.shaped
  have h := can_stps hd
  have := dep_stps ds
  simp only [PyData.canLay0, h, Bool.true_and, PyData.depth]
  exact decide_eq_true (by omega)
/-! ### what stands in the law -/
theorem stps_good {K : PySem.W.Frag} {H : Hp} {og L : Addr} {os : List Addr} {O : List RT.Row} {l : List Stp} (hO : PageAt K H og os O) (h : StpsA H os L l) : ∃ ts : List Addr, H L = some (.lst (ts.map V.ref)) ∧ ts.length = l.length ∧ GoodD K H (ts.map V.ref) (l.map (deedOf O)) := by
  obtain ⟨ts, h1, h2, h3⟩ := h
  refine ⟨ts, h1, h2, fun i d e => ?_⟩
  rw [List.getElem?_map] at e
  obtain ⟨s, hs, rfl⟩ : ∃ s, l[i]? = some s ∧ d = deedOf O s := by
    cases q : l[i]? with
    | none => rw [q] at e; cases e
    | some s => rw [q] at e; cases e; exact ⟨s, rfl, rfl⟩
  have hi : i < ts.length := by rw [h2]; exact (List.getElem?_eq_some_iff.mp hs).1
  have ht := List.getElem?_eq_getElem hi
  have hA := h3 i _ s ht hs
  refine ⟨ts[i], by rw [List.getElem?_map, ht]; rfl, ?_⟩
  have row : ∀ {n : Nat} {q : Addr}, os[n]? = some q → SqT K H q (sV (O.getD n [])) := fun {n q} e => by
    have hn : n < O.length := by rw [← hO.len]; exact (List.getElem?_eq_some_iff.mp e).1
    exact hO.row n q _ e (getD_get hn)
  cases s with
  | change n =>
    obtain ⟨q, e1, e2⟩ := hA
    exact ⟨q, e2, row e1⟩
  | put n =>
    obtain ⟨q, e1, e2⟩ := hA
    exact ⟨q, e2, row e1⟩
  | take n => exact hA
/-- a page beside the box -/
structure PgD (b l : Addr) (H : Hp) (p : Addr) (as : List Addr) (rows : List (List Str)) : Prop where
  lst : H p = some (.lst (as.map V.ref))
  pb : p ≠ b
  pl : p ≠ l
  len : as.length = rows.length
  row : ∀ (i : Nat) (q : Addr) (r : List Str), as[i]? = some q → rows[i]? = some r → H q = some (.tup (sV r))
  ok : PgOk rows
  m14 : rows.length ≤ 14
theorem PgD.kb {b l p : Addr} {H H' : Hp} {as : List Addr} {rows : List (List Str)} (d : PgD b l H p as rows) (hB : BoxAt H b l) (x : KB b l H H') : PgD b l H' p as rows :=
  ⟨x _ _ d.lst d.pb d.pl, d.pb, d.pl, d.len, fun i q r e1 e2 => kb_tup x hB _ _ (d.row i q r e1 e2), d.ok, d.m14⟩
theorem PgD.same {b l p : Addr} {H H' : Hp} {as : List Addr} {rows : List (List Str)} (d : PgD b l H p as rows) (x : Same H H') : PgD b l H' p as rows :=
  ⟨x _ _ d.lst, d.pb, d.pl, d.len, fun i q r e1 e2 => x _ _ (d.row i q r e1 e2), d.ok, d.m14⟩
theorem PgD.at_ {K : PySem.W.Frag} {b l p : Addr} {H : Hp} {as : List Addr} {rows : List (List Str)} (d : PgD b l H p as rows) : PageAt K H p as rows := ⟨SqL.of d.lst, d.len, fun i q r e1 e2 => SqT.of (d.row i q r e1 e2)⟩
/-- all that stands while the laws are asked -/
structure Sit (K : PySem.W.Frag) (cs : List (Addr × Addr)) (st PL : Addr) (A : Nat → Addr) (AS : Nat → List Addr) (R : Nat → List RT.Row) (gap least : Int) (H : Hp) : Prop where
  tab : Tabs cs H
  sty : StyleAt K H st gap least
  pl : H PL = some (.lst [.ref (A 0), .ref (A 1), .ref (A 2)])
  pg : ∀ n, n < 3 → PageAt K H (A n) (AS n) (R n)
theorem Sit.ex {K : PySem.W.Frag} {cs : List (Addr × Addr)} {st PL : Addr} {A : Nat → Addr} {AS : Nat → List Addr} {R : Nat → List RT.Row} {gap least : Int} {H H' : Hp} (o : Sit K cs st PL A AS R gap least H) (x : Ex cs H H') : Sit K cs st PL A AS R gap least H' :=
  ⟨x.tab, o.sty.gwN x.ext, x.lst o.pl, fun n hn => (o.pg n hn).ex x⟩
theorem Sit.nth {K : PySem.W.Frag} {cs : List (Addr × Addr)} {st PL : Addr} {A : Nat → Addr} {AS : Nat → List Addr} {R : Nat → List RT.Row} {gap least : Int} {H : Hp} (o : Sit K cs st PL A AS R gap least H) {n : Nat} (hn : n < 3) : SqL K H PL [.ref (A 0), .ref (A 1), .ref (A 2)] ∧ atI [V.ref (A 0), .ref (A 1), .ref (A 2)] ((n : Nat) : Int) = some (.ref (A n)) := by
  refine ⟨SqL.of o.pl, atI_nat ?_⟩
  rcases (by omega : n = 0 ∨ n = 1 ∨ n = 2) with rfl | rfl | rfl <;> rfl
/-- the numbers of steps -/
def Mn (R : Nat → List RT.Row) (D : Addr) (n : Nat) (dn : Nat → Nat → Prop) (H : Hp) : Prop := ∃ kvs : List (List Key × V), H D = some (.dT kvs) ∧ kvs.length ≤ n ∧ ∀ a b, dn a b → valV kvs (ky a b) = some (.int ((ed (R a) (R b) : Nat) : Int))
theorem Mn.ex {cs : List (Addr × Addr)} {R : Nat → List RT.Row} {D : Addr} {n : Nat} {dn : Nat → Nat → Prop} {H H' : Hp} (h : Mn R D n dn H) (x : Ex cs H H') : Mn R D n dn H' := by
  obtain ⟨kvs, h1, h2, h3⟩ := h
  exact ⟨kvs, x.ext _ _ h1 (fun ps z => nomatch z), h2, h3⟩
theorem Mn.mono {R : Nat → List RT.Row} {D : Addr} {n m : Nat} {dn dm : Nat → Nat → Prop} {H : Hp} (h : Mn R D n dn H) (hm : n ≤ m) (hd : ∀ a b, dm a b → dn a b) : Mn R D m dm H := by
  obtain ⟨kvs, h1, h2, h3⟩ := h
  exact ⟨kvs, h1, by omega, fun a b z => h3 a b (hd a b z)⟩
theorem Mn.get {R : Nat → List RT.Row} {D t : Addr} {n a b : Nat} {dn : Nat → Nat → Prop} {H : Hp} (h : Mn R D n dn H) (d : dn a b) (ht : H t = some (.tup [.int (a : Nat), .int (b : Nat)])) : DGet H D (.ref t) (some (.int ((ed (R a) (R b) : Nat) : Int))) := by
  obtain ⟨kvs, h1, _, h3⟩ := h
  rw [← h3 a b d]
  exact DGet.t (k := ky a b) h1 ht
theorem Mn.put {R : Nat → List RT.Row} {D t : Addr} {n i j : Nat} {dn dm : Nat → Nat → Prop} {H : Hp} (h : Mn R D n dn H) (ht : H t = some (.tup [.int (i : Nat), .int (j : Nat)])) (hn : n < sizeLine) (hd : ∀ a b, dm a b → dn a b ∨ (a = i ∧ b = j)) :
    ∃ o, DPut H D (.ref t) (.int ((ed (R i) (R j) : Nat) : Int)) (upd H D o) ∧ Mn R D (n + 1) dm (upd H D o) := by
  obtain ⟨kvs, h1, h2, h3⟩ := h
  refine ⟨_, DPut.t (k := ky i j) h1 ht (by omega), _, upd_same, Nat.le_trans (putK_len _ _ _) (by omega), fun a b z => ?_⟩
  by_cases e : a = i ∧ b = j
  · obtain ⟨rfl, rfl⟩ := e
    rw [valV_put, if_pos rfl]
  · rcases hd a b z with z | z
    · rw [valV_put, if_neg, h3 a b z]
      intro q
      apply e
      injection q with q1 q2
      injection q2 with q2 _
      injection q1 with q1
      injection q2 with q2
      exact ⟨Int.ofNat.inj q1, Int.ofNat.inj q2⟩
    · exact (e z).elim
def teN (K : PySem.W.Frag) (i : Nat) : TE := tIf (tTest (tOp (rI0 fun i j => V.bl (decide (j < i))) (tCall spTake [] E0 (tCons (tVar 1) (tCons (tC (V.int 4)) tNil))) (tC (V.int 0))))
  (tSl (rSlL K) (tCall (spNear K) [] E0 (tCons (tVar 1) (tCons (tVar i) tNil))) tNoPart (tPart (tC (V.int 14)))) (tCall spPageM [] E0 (tCons (tVar 1) (tCons (tC (V.int 14)) tNil)))
theorem teN_go {K : PySem.W.Frag} {i : Nat} {σ : L2.St} {H : Hp} {Q : VK} {b l p : Addr} {as : List Addr} {rows : List (List Str)} (h1 : σ[1]? = some (some (.ref b))) (hi : σ[i]? = some (some (.ref p))) (hB : BoxAt H b l) (d : PgD b l H p as rows)
    (k : ∀ p' as' rows' H', BoxAt H' b l → KB b l H H' → PgD b l H' p' as' rows' → Q (.ref p') H') : teN K i σ H Q := by
  unfold teN
  refine ⟨_, h1, b, l, 4, rfl, hB, by decide, by decide, fun t H1 t0 t1 hB1 x1 => ⟨t, 0, rfl, rfl, ?_⟩⟩
  by_cases ht : 0 < t
  · have d1 := d.kb hB x1
    refine ⟨true, dT ht, iteT ⟨_, h1, _, hi, b, l, p, as, rows, rfl, hB1, d1.lst, d1.pb, d1.pl, d1.len, d1.row, d1.ok, fun q as' rows' H2 hB2 x2 nq qb ql hq hql hqr hqo => ⟨14, rfl, q, _, rfl, SqL.of hq, fun z nz => ?_⟩⟩⟩
    have e : cutV (as'.map V.ref) none (some 14) = (as'.take 14).map V.ref := (cutV_to _ 14).trans List.map_take.symm
    rw [e]
    have p1 := hqo.pos
    have p2 := hqo.len
    refine k z (as'.take 14) (rows'.take 14) _ (box_new hB2 nz) ((x1.trans x2).trans (kb_new nz)) ⟨upd_same, (new_ne hB2 nz).1, (new_ne hB2 nz).2, by rw [List.length_take, List.length_take, hql], fun i q' r e1 e2 => ?_, ⟨by rw [List.length_take]; omega, by rw [List.length_take]; omega, fun r hr => hqo.rows r (List.mem_of_mem_take hr)⟩, by rw [List.length_take]; omega⟩
    rw [List.getElem?_take] at e1 e2
    by_cases c : i < 14
    · rw [if_pos c] at e1 e2
      have h := hqr i q' r e1 e2
      rw [upd_ne (fun w => by rw [w, nz] at h; cases h)]
      exact h
    · rw [if_neg c] at e1
      cases e1
  · refine ⟨false, dF ht, iteF ⟨_, h1, b, l, 14, rfl, hB1, by decide, by decide, fun q as' rows' H2 hB2 x2 nq qb ql hq hql hqr hqo h14 => k q as' rows' H2 hB2 (x1.trans x2) ⟨hq, qb, ql, hql, hqr, hqo, by omega⟩⟩⟩
theorem te_cut {te : TE} {σ : L2.St} {H : Hp} {Q : VK} (C : V → Hp → Prop) (h : ∀ G : VK, (∀ v H', C v H' → G v H') → te σ H G) (k : ∀ v H', C v H' → Q v H') : te σ H Q := h Q k
section
variable {P : Program} {w : World} {K : PySem.W.Frag} {mg : Str → Option Value} {base : Heap} {cs : List (Addr × Addr)} {R : Addr}
def spLaw (K : PySem.W.Frag) (cs : List (Addr × Addr)) : Sp := fun vs H Q _ => ∃ (a : Addr) (ns : List Int), vs = [.ref a] ∧ Tabs cs H ∧ SqL K H a (ns.map V.int) ∧ ns.length ≤ 63 ∧ ∀ H', Q (.bl true) H'
abbrev nmLaw : List Str := ["_law_script", "_law_box", "_law_one", "_law_style_here", "_law_two", "_law_three", "_law_pages", "_law_many", "_law_k", "_law_j", "_law_steps", "_law_page_here", "_law_moved", "_law_m"]
theorem sc_law : FnScope nmLaw ["_law_script"] (defScope s_law) := ⟨rfl, rfl, rfl, by decide +kernel, rfl, by decide +kernel, by decide +kernel⟩
theorem ok_law {f g1 g2 g3 g4 g5 g6 g7 : Addr} {fd fd1 fd2 fd3 fd4 fd5 fd6 fd7 : FuncData} (T : Txt mg) (eAbs : mg "abs" = none) (F : Fun K "law" "law" s_law f fd)
    (G1 : FnOk P w K mg base CX0 1 g1 fd1 ["_law_script"] (spBegun K)) (k1 : PySem.W.keepIn K (.ref g1) = true) (b1 : Binds K fd1 ["_law_script"] []) (m1 : mg "_law_begun" = some (.ref g1))
    (G2 : FnOk P w K mg base CX0 1 g2 fd2 ["_law_box", "_law_many"] spTake) (k2 : PySem.W.keepIn K (.ref g2) = true) (b2 : Binds K fd2 ["_law_box", "_law_many"] []) (m2 : mg "_law_take" = some (.ref g2))
    (G3 : FnOk P w K mg base CX0 5 g3 fd3 ["_law_box", "_law_most"] spPageM) (k3 : PySem.W.keepIn K (.ref g3) = true) (b3 : Binds K fd3 ["_law_box", "_law_most"] []) (m3 : mg "_law_page" = some (.ref g3))
    (G4 : FnOk P w K mg base CX0 2 g4 fd4 ["_law_box"] spStyleD) (k4 : PySem.W.keepIn K (.ref g4) = true) (b4 : Binds K fd4 ["_law_box"] []) (m4 : mg "_law_style" = some (.ref g4))
    (G5 : FnOk P w K mg base CX0 5 g5 fd5 ["_law_box", "_law_page_here"] (spNear K)) (k5 : PySem.W.keepIn K (.ref g5) = true) (b5 : Binds K fd5 ["_law_box", "_law_page_here"] []) (m5 : mg "_law_near" = some (.ref g5))
    (G6 : FnOk P w K mg base CX0 12 g6 fd6 ["page", "other"] (spRoute K cs)) (k6 : PySem.W.keepIn K (.ref g6) = true) (b6 : Binds K fd6 ["page", "other"] []) (m6 : mg "route" = some (.ref g6))
    (G7 : FnOk P w K mg base CX0 19 g7 fd7 ["page", "style", "steps"] (noE (spStepped K cs R))) (k7 : PySem.W.keepIn K (.ref g7) = true) (b7 : Binds K fd7 ["page", "style", "steps"] []) (m7 : mg "stepped" = some (.ref g7)) :
    FnOk P w K mg base CX0 20 f fd ["_law_script"] (spLaw K cs) := by
  refine F.ok sc_law (fun vs H Q E h => ?_) (fun cdv A outer s H vs Q E hr h => ?_)
  · obtain ⟨sc, ns, rfl, _⟩ := h
    rfl
  · obtain ⟨sc, ns, rfl, hT, hS, hl, kQ⟩ := h
    have nd := sc_law.nd
    have hu := hr.units
    have r1 : Room 1 _ := hr.mono (by decide)
    have r2 : Room 2 _ := hr.mono (by decide)
    have r5 : Room 5 _ := hr.mono (by decide)
    have r12 : Room 12 _ := hr.mono (by decide)
    have r19 : Room 19 _ := hr.mono (by decide)
    have szl : (9000 : Nat) < sizeLine := by decide
    have hu1 : (A.deeper (envOfC (Str.ofString "law") (defScope s_law) s.heap.objs.size f cdv)).units + 1 < cLine := by omega
    refine ⟨_, (pss_cons (ps_set (i := 1) nd rfl (.inl rfl) (pe_call G1 r1 (by rfl) m1 k1 b1 .nil pass0 (pa_cons (pv 0) pa_nil)))
      (pss_cons (ps_par (i := 2) (j := 3) rfl nd rfl rfl (by decide) rfl rfl (pa_cons (pe_call G3 r5 (by rfl) m3 k3 b3 .nil pass0 (pa_cons (pv 1) (pa_cons pe_int pa_nil))) (pa_cons (pe_call G4 r2 (by rfl) m4 k4 b4 .nil pass0 (pa_cons (pv 1) pa_nil)) pa_nil)) (by rfl))
      (pss_cons (ps_set (i := 4) nd rfl (.inl rfl) (pe_ifExp (pt_cmpR op_gt (pe_call G2 r1 (by rfl) m2 k2 b2 .nil pass0 (pa_cons (pv 1) (pa_cons pe_int pa_nil))) pe_int (nomark _)) (pe_slice sl_list (pe_call G5 r5 (by rfl) m5 k5 b5 .nil pass0 (pa_cons (pv 1) (pa_cons (pv 2) pa_nil))) po_none (po_some pe_int)) (pe_call G3 r5 (by rfl) m3 k3 b3 .nil pass0 (pa_cons (pv 1) (pa_cons pe_int pa_nil)))))
      (pss_cons (ps_set (i := 5) nd rfl (.inl rfl) (pe_ifExp (pt_cmpR op_gt (pe_call G2 r1 (by rfl) m2 k2 b2 .nil pass0 (pa_cons (pv 1) (pa_cons pe_int pa_nil))) pe_int (nomark _)) (pe_slice sl_list (pe_call G5 r5 (by rfl) m5 k5 b5 .nil pass0 (pa_cons (pv 1) (pa_cons (pv 4) pa_nil))) po_none (po_some pe_int)) (pe_call G3 r5 (by rfl) m3 k3 b3 .nil pass0 (pa_cons (pv 1) (pa_cons pe_int pa_nil)))))
      (pss_cons (ps_asg (pe_tup (pa_cons (pe_lst (pa_cons (pv 2) (pa_cons (pv 4) (pa_cons (pv 5) pa_nil)))) (pa_cons pe_dnewT pa_nil))) (pg_tup rfl (pgs_cons (pg_name (i := 6) nd rfl (.inl rfl)) (pgs_cons (pg_name (i := 7) nd rfl (.inr rfl)) pgs_nil))))
      (pss_cons (ps_for PassesOwn.never rfl (pi_range1 (by rfl) T.range (pa_cons pe_int pa_nil)) (pg_name (i := 8) nd rfl (.inr rfl))
      (pss_one (ps_for PassesOwn.never rfl (pi_range1 (by rfl) T.range (pa_cons pe_int pa_nil)) (pg_name (i := 9) nd rfl (.inr rfl))
      (pss_cons (ps_set (i := 10) nd rfl (.inl rfl) (pe_call G6 r12 (by rfl) m6 k6 b6 .nil pass0 (pa_cons (pe_ix ix_list (pv 6) (pv 8) (fun _ _ => rfl)) (pa_cons (pe_ix ix_list (pv 6) (pv 9) (fun _ _ => rfl)) pa_nil))))
      (pss_cons (ps_dput hu1 (pv 7) (pe_tup (pa_cons (pv 8) (pa_cons (pv 9) pa_nil))) (pe_callB call_len_seq (by rfl) T.len PySem.boot_len (pa_cons (pv 10) pa_nil)) rfl)
      (pss_cons (ps_asg (pe_call G7 r19 (by rfl) m7 k7 b7 .nil pass0 (pa_cons (pe_ix ix_list (pv 6) (pv 8) (fun _ _ => rfl)) (pa_cons (pv 3) (pa_cons (pv 10) pa_nil)))) (pg_tup rfl (pgs_cons (pg_name (i := 11) nd rfl (.inl rfl)) (pgs_cons (pg_name (i := 12) nd rfl (.inl rfl)) pgs_nil))))
      (pss_cons (ps_if (PW.pt (pw_or (pt_cmpR (op_neD hu) (pv 11) (pe_ix ix_list (pv 6) (pv 9) (fun _ _ => rfl)) (nomark _)) (pw_or (pt_cmpR op_ne (pe_callB call_len_seq (by rfl) T.len PySem.boot_len (pa_cons (pv 12) pa_nil)) (pe_callB call_len_seq (by rfl) T.len PySem.boot_len (pa_cons (pv 10) pa_nil)) (nomark _)) (pw_or1 (pt_cmpR op_ne (pe_cmpR (op_eqD hu) (pv 10) (pe_lst pa_nil) (nomark _)) (pe_cmpR (op_eqD hu) (pe_ix ix_list (pv 6) (pv 8) (fun _ _ => rfl)) (pe_ix ix_list (pv 6) (pv 9) (fun _ _ => rfl)) (nomark _)) (nomark _)))))) (pss_one (ps_ret pe_bl)) pss_nil)
      (pss_one (ps_if (PW.pt (pw_or (pt_cmpR op_gt (pe_callB call_len_seq (by rfl) T.len PySem.boot_len (pa_cons (pv 10) pa_nil)) (pe_callB (call_max2 rfl) (by rfl) T.max (by decide +kernel) (pa_cons (pe_callB call_len_seq (by rfl) T.len PySem.boot_len (pa_cons (pe_ix ix_list (pv 6) (pv 8) (fun _ _ => rfl)) pa_nil)) (pa_cons (pe_callB call_len_seq (by rfl) T.len PySem.boot_len (pa_cons (pe_ix ix_list (pv 6) (pv 9) (fun _ _ => rfl)) pa_nil)) pa_nil))) (nomark _)) (pw_or1 (pt_cmpR op_lt (pe_callB call_len_seq (by rfl) T.len PySem.boot_len (pa_cons (pv 10) pa_nil)) (pe_callB call_abs (by rfl) eAbs (by decide +kernel) (pa_cons (pe_op op_sub (pe_callB call_len_seq (by rfl) T.len PySem.boot_len (pa_cons (pe_ix ix_list (pv 6) (pv 8) (fun _ _ => rfl)) pa_nil)) (pe_callB call_len_seq (by rfl) T.len PySem.boot_len (pa_cons (pe_ix ix_list (pv 6) (pv 9) (fun _ _ => rfl)) pa_nil))) pa_nil)) (nomark _))))) (pss_one (ps_ret pe_bl)) pss_nil)))))))))
      (pss_cons (ps_for PassesOwn.never rfl (pi_range1 (by rfl) T.range (pa_cons pe_int pa_nil)) (pg_name (i := 8) nd rfl (.inr rfl))
      (pss_one (ps_for PassesOwn.never rfl (pi_range1 (by rfl) T.range (pa_cons pe_int pa_nil)) (pg_name (i := 9) nd rfl (.inr rfl))
      (pss_cons (ps_if (pt_cmpR op_ne (pe_dget hu1 (pv 7) (pe_tup (pa_cons (pv 8) (pa_cons (pv 9) pa_nil))) (fun _ _ => rfl)) (pe_dget hu1 (pv 7) (pe_tup (pa_cons (pv 9) (pa_cons (pv 8) pa_nil))) (fun _ _ => rfl)) (nomark _)) (pss_one (ps_ret pe_bl)) pss_nil)
      (pss_one (ps_if (pt_cmpR (op_neD hu) (pe_lc (own := [("_law_m", 13)]) (g := gName 13) rfl nd (pi_range1 (by rfl) T.range (pa_cons pe_int pa_nil)) (blkOk_by (own := [("_law_m", 13)]) (N := nmLaw) (sc := defScope s_law) (by decide +kernel)) (fun _ _ _ _ _ => pg_name (i := 13) nd rfl (Or.inl rfl)) (fun _ _ _ _ _ => pts_one (pt_cmpR op_gt (pe_dget hu1 (pv 7) (pe_tup (pa_cons (pv 8) (pa_cons (pv 9) pa_nil))) (fun _ _ => rfl)) (pe_op op_add (pe_dget hu1 (pv 7) (pe_tup (pa_cons (pv 8) (pa_cons (pv 13) pa_nil))) (fun _ _ => rfl)) (pe_dget hu1 (pv 7) (pe_tup (pa_cons (pv 13) (pa_cons (pv 9) pa_nil))) (fun _ _ => rfl))) (nomark _))) (fun _ _ _ _ _ => pv 13)) (pe_lst pa_nil) (nomark _)) (pss_one (ps_ret pe_bl)) pss_nil))))))
      (pss_one (ps_ret pe_bl))))))))), ?_⟩
    refine ⟨_, rfl, sc, ns, rfl, hS, hl, fun b l H1 hB1 x1 nb nl => ?_⟩
    have hT1 := tabs_ext hT x1
    refine ⟨_, rfl, b, l, 14, rfl, hB1, by decide, by decide, fun p0 as0 rows0 H2 hB2 x2 n0 p0b p0l hp0 l0 r0 ok0 m0 => ?_⟩
    refine ⟨_, rfl, b, l, rfl, hB2, fun st gap least H3 hB3 x3 nst hst g0 g1 e0 e1 => ⟨_, _, rfl, ?_⟩⟩
    have d0 := (PgD.mk hp0 p0b p0l l0 r0 ok0 (by omega)).kb hB2 x3
    have hT3 := tabs_kb (tabs_kb hT1 hB1 x2) hB2 x3
    clear hT1 x1 nb nl x2 hB1 hp0 r0 hB2 x3 n0 nst hS hT
    refine teN_go (K := K) (i := 2) rfl rfl hB3 d0 fun p1 as1 rows1 H4 hB4 x4 d1 => ?_
    have d0 := d0.kb hB3 x4
    have hst := kb_tup x4 hB3 _ _ hst
    have hT3 := tabs_kb hT3 hB3 x4
    refine teN_go (K := K) (i := 4) rfl rfl hB4 d1 fun p2 as2 rows2 H5 hB5 x5 d2 => ?_
    have d0 := d0.kb hB4 x5
    have d1 := d1.kb hB4 x5
    have hst := kb_tup x5 hB4 _ _ hst
    have hT3 := tabs_kb hT3 hB4 x5
    clear x4 x5 hB3 hB4
    refine ⟨_, rfl, _, rfl, _, rfl, by show 3 ≤ sizeLine; decide, fun PL nPL => ?_⟩
    have sPL := same_new (o := .lst [.ref p0, .ref p1, .ref p2]) nPL
    obtain ⟨Af, hAf⟩ : ∃ f : Nat → Addr, f = fun n => match n with | 0 => p0 | 1 => p1 | _ => p2 := ⟨_, rfl⟩
    obtain ⟨ASf, hASf⟩ : ∃ f : Nat → List Addr, f = fun n => match n with | 0 => as0 | 1 => as1 | _ => as2 := ⟨_, rfl⟩
    obtain ⟨Rf, hRf⟩ : ∃ f : Nat → List RT.Row, f = fun n => match n with | 0 => rows0 | 1 => rows1 | _ => rows2 := ⟨_, rfl⟩
    have hok : ∀ n, n < 3 → PgOk (Rf n) ∧ (Rf n).length ≤ 14 := fun n hn => by
      rcases (by omega : n = 0 ∨ n = 1 ∨ n = 2) with rfl | rfl | rfl <;> rw [hRf]
      · exact ⟨d0.ok, d0.m14⟩
      · exact ⟨d1.ok, d1.m14⟩
      · exact ⟨d2.ok, d2.m14⟩
    have o : Sit K cs st PL Af ASf Rf gap least (upd H5 PL (.lst [.ref p0, .ref p1, .ref p2])) := ⟨(ex_same hT3 sPL).tab, ⟨SqT.of (sPL _ _ hst), g0, g1, e0, e1⟩, by rw [hAf]; exact upd_same, fun n hn => by
      rcases (by omega : n = 0 ∨ n = 1 ∨ n = 2) with rfl | rfl | rfl <;> rw [hRf, hASf, hAf]
      · exact (d0.same sPL).at_
      · exact (d1.same sPL).at_
      · exact (d2.same sPL).at_⟩
    clear hAf hASf hRf hT3 hst d0 d1 d2 sPL
    generalize upd H5 PL (.lst [.ref p0, .ref p1, .ref p2]) = HA at o ⊢
    refine fun DM nDM => ⟨by show 2 ≤ sizeLine; decide, fun T0 nT0 => ?_⟩
    have xA : Ex cs HA (upd (upd HA DM (.dT [])) T0 (.tup [.ref PL, .ref DM])) := (Ex.laid o.tab nDM).trans (Ex.laid (Ex.laid o.tab nDM).tab nT0)
    have mA : Mn Rf DM 0 (fun i j => i < 3 ∧ j < 3 ∧ i < 0) (upd (upd HA DM (.dT [])) T0 (.tup [.ref PL, .ref DM])) := ⟨[], same_new nT0 _ _ upd_same, Nat.le_refl _, fun a b z => by omega⟩
    refine ⟨T0, _, rfl, .inl (.inl upd_same), rfl, _, _, rfl, _, _, rfl, rfl, ?_⟩
    generalize upd (upd HA DM (.dT [])) T0 (.tup [.ref PL, .ref DM]) = HB at xA mA ⊢
    clear nT0 nPL
    refine ⟨_, rfl, by decide, by decide, for_range (n := 3) (fun a σ H' => (∃ c8 c9 c10 c11 c12 c13 : Option V, σ = [some (.ref sc), some (.ref b), some (.ref p0), some (.ref st), some (.ref p1), some (.ref p2), some (.ref PL), some (.ref DM), c8, c9, c10, c11, c12, c13]) ∧ Ex cs HA H' ∧ Mn Rf DM (a * 3) (fun i j => i < 3 ∧ j < 3 ∧ i < a) H')
      ⟨⟨none, none, none, none, none, none, rfl⟩, xA, mA⟩ ?_ ?_⟩
    · clear xA mA
      rintro ka σ H6 ha ⟨⟨c8, c9, c10, c11, c12, c13, rfl⟩, x6, m6⟩
      have ez : (0 : Int) + ((ka : Nat) : Int) = ((ka : Nat) : Int) := by omega
      rw [ez]
      refine ⟨_, rfl, by decide, by decide, for_range (n := 3) (fun kb σ H' => (∃ c9 c10 c11 c12 c13 : Option V, σ = [some (.ref sc), some (.ref b), some (.ref p0), some (.ref st), some (.ref p1), some (.ref p2), some (.ref PL), some (.ref DM), some (.int ((ka : Nat) : Int)), c9, c10, c11, c12, c13]) ∧ Ex cs HA H' ∧ Mn Rf DM (ka * 3 + kb) (fun i j => i < 3 ∧ j < 3 ∧ (i < ka ∨ (i = ka ∧ j < kb))) H')
        ⟨⟨c9, c10, c11, c12, c13, rfl⟩, x6, m6.mono (by omega) fun i j z => ⟨z.1, z.2.1, by omega⟩⟩ ?_ ?_⟩
      rotate_left
      · rintro σ H7 ⟨⟨c9, c10, c11, c12, c13, rfl⟩, x7, m7⟩
        exact ⟨⟨_, _, _, _, _, _, rfl⟩, x7, m7.mono (by omega) fun i j z => ⟨z.1, z.2.1, by omega⟩⟩
      clear x6 m6
      rintro kb σ H7 hb ⟨⟨c9, c10, c11, c12, c13, rfl⟩, x7, m7⟩
      have ez : (0 : Int) + ((kb : Nat) : Int) = ((kb : Nat) : Int) := by omega
      rw [ez]
      have o7 := o.ex x7
      obtain ⟨gP, l14⟩ := hok ka ha
      obtain ⟨gO, m14⟩ := hok kb hb
      refine ⟨_, rfl, _, rfl, PL, _, ((ka : Nat) : Int), .ref (Af ka), rfl, rfl, (o7.nth ha).1, (o7.nth ha).2, _, rfl, _, rfl, PL, _, ((kb : Nat) : Int), .ref (Af kb), rfl, rfl, (o7.nth hb).1, (o7.nth hb).2, Af ka, Af kb, ASf ka, ASf kb, Rf ka, Rf kb, rfl, o7.tab, o7.pg ka ha, o7.pg kb hb, gP, gO, fun L H8 x8 hs => ?_⟩
      have m8 := m7.ex x8
      have x8 := x7.trans x8
      obtain ⟨ts, hL, hlen, _⟩ := id hs
      have hpl : (plan (Rf ka) (Rf kb) 0).length = ed (Rf ka) (Rf kb) := plan_len _ _ _ _ (Nat.le_refl _)
      refine ⟨_, rfl, L, _, rfl, .inl (SqL.of hL), _, rfl, _, rfl, _, rfl, by show 2 ≤ sizeLine; decide, fun T1 nT1 => ?_⟩
      have sT := same_new (o := .tup [.int ((ka : Nat) : Int), .int ((kb : Nat) : Int)]) nT1
      have xT := Ex.laid (o := .tup [.int ((ka : Nat) : Int), .int ((kb : Nat) : Int)]) x8.tab nT1
      have m8 := m8.ex xT
      have hs := hs.same sT
      have hL := sT _ _ hL
      obtain ⟨od, dp, m9⟩ := m8.put (dm := fun i j => i < 3 ∧ j < 3 ∧ (i < ka ∨ (i = ka ∧ j < kb + 1))) upd_same (by omega) (fun i j z => by
        by_cases c : i = ka ∧ j = kb
        · exact .inr c
        · exact .inl ⟨z.1, z.2.1, by omega⟩)
      have elen : (((ts.map V.ref).length : Nat) : Int) = ((ed (Rf ka) (Rf kb) : Nat) : Int) := by rw [List.length_map, hlen, hpl]
      refine ⟨DM, upd (upd H8 T1 (.tup [.int ((ka : Nat) : Int), .int ((kb : Nat) : Int)])) DM od, rfl, by rw [elen]; exact dp, ?_⟩
      have x9 := ex_new (o := od) o.tab (x8.trans xT) nDM
      obtain ⟨kvs, hkv, _⟩ := m8
      have nLD : L ≠ DM := fun e => by rw [e, hkv] at hL; cases hL
      have hs := hs.bt (bt_upd (o := od) fun xs h => by rw [hkv] at h; cases h) nLD
      clear hkv sT xT x8 nT1 dp m7 x7 o7
      generalize upd (upd H8 T1 (.tup [.int ((ka : Nat) : Int), .int ((kb : Nat) : Int)])) DM od = H9 at x9 m9 hs ⊢
      have o9 := o.ex x9
      obtain ⟨ts, hL, hlen, gd⟩ := stps_good (o9.pg kb hb) hs
      obtain ⟨Rr, Lr, hR, h0, hE⟩ := plan_run gP gO (by omega) gap least
      have bnd := (ed_le _ (Rf ka) (Rf kb) (Nat.le_refl _))
      generalize hds : (plan (Rf ka) (Rf kb) 0).map (deedOf (Rf kb)) = ds at gd hR hE
      have dlen : ds.length = ed (Rf ka) (Rf kb) := by rw [← hds, List.length_map, hpl]
      have tlen : (ts.map V.ref).length = ds.length := by rw [List.length_map, hlen, hpl, dlen]
      have dsok := hR.ok gd
      refine ⟨_, rfl, _, rfl, PL, _, ((ka : Nat) : Int), .ref (Af ka), rfl, rfl, (o9.nth ha).1, (o9.nth ha).2, _, rfl, _, rfl, Af ka, st, L, ASf ka, Rf ka, gap, least, ts.map V.ref, ds, Rr, Lr, rfl, o9.tab, o9.pg ka ha, gP, o9.sty, SqL.of hL, gd.all tlen, gd, hR, h0, by omega, by omega, tlen, fun q r m as' H10 x10 nq nr nm rm hq hr hrr hm => ?_⟩
      refine ⟨q, _, rfl, .inl (.inl hq), rfl, _, _, rfl, _, _, rfl, rfl, ?_⟩
      have m10 := m9.ex x10
      have gd := gd.gw x10.ext
      have hL := x10.lst hL
      have x10 := x9.trans x10
      have o10 := o.ex x10
      rw [hE] at hrr
      clear hs m9 x9 o9 nq nr nm rm hq hR hE h0
      have pA := o10.pg ka ha
      have pB := o10.pg kb hb
      have shA := shaped_rows gP
      have shB := shaped_rows gO
      have eB : PyData.eqv (.list (rowsD (Rf kb))) (.list (rowsD (Rf kb))) = true := SeqAt.eqv_refl _ (can_rows gO)
      have dpA : ∀ {H' : Hp}, Ex cs H10 H' → Dp K H' (.ref (Af ka)) (.list (rowsD (Rf ka))) := fun x => .lst (x.sqL pA.lst) (dp_rows pA.len fun i q t e1 e2 => x.sqT (pA.row i q t e1 e2))
      have dpB : ∀ {H' : Hp}, Ex cs H10 H' → Dp K H' (.ref (Af kb)) (.list (rowsD (Rf kb))) := fun x => .lst (x.sqL pB.lst) (dp_rows pB.len fun i q t e1 e2 => x.sqT (pB.row i q t e1 e2))
      have lA : ((ASf ka).map V.ref).length = (Rf ka).length := by rw [List.length_map, pA.len]
      have lB : ((ASf kb).map V.ref).length = (Rf kb).length := by rw [List.length_map, pB.len]
      have nA := (o10.nth ha)
      have nB := (o10.nth hb)
      have tl2 : (((ts.map V.ref).length : Nat) : Int) = ((ed (Rf ka) (Rf kb) : Nat) : Int) := by rw [tlen, dlen]
      have ml2 : (((numsL Lr ds.length).length : Nat) : Int) = ((ed (Rf ka) (Rf kb) : Nat) : Int) := by rw [List.length_map, List.length_range, dlen]
      -- the page behind the steps
      refine ⟨_, rfl, _, rfl, _, rfl, PL, _, ((kb : Nat) : Int), .ref (Af kb), rfl, rfl, nB.1, nB.2, .list (rowsD (Rf kb)), .list (rowsD (Rf kb)), .lst (SqL.of hr) (dp_rows hrr.len fun i q t e1 e2 => hrr.row i q t e1 e2), dpB (Ex.refl x10.tab), shB, shB, ?_⟩
      rw [eB]
      refine ⟨false, rfl, iteF ?_⟩
      refine ⟨_, rfl, m, _, rfl, .inl (SqL.of hm), _, rfl, L, _, rfl, .inl (SqL.of hL), rfl, false, by rw [ml2, tl2, decide_eq_true rfl]; rfl, iteF ?_⟩
      refine ⟨_, rfl, small0, fun E1 nE1 => ?_⟩
      have xE := Ex.laid (o := .lst []) x10.tab nE1
      refine ⟨.list (ds.map stpD), .list [], .lst (SqL.of (xE.lst hL)) (dp_stps tlen (gd.gw xE.ext)), .lst (SqL.of upd_same) .nil, shaped_stps dsok, by decide, ?_⟩
      rw [eqv_stps0]
      refine ⟨_, rfl, _, rfl, PL, _, ((ka : Nat) : Int), .ref (Af ka), rfl, rfl, xE.sqL nA.1, nA.2, _, rfl, _, rfl, PL, _, ((kb : Nat) : Int), .ref (Af kb), rfl, rfl, xE.sqL nB.1, nB.2, _, _, dpA xE, dpB xE, shA, shB, ?_⟩
      rw [eqv_page]
      have es : decide (ds = []) = decide (Rf ka = Rf kb) := decide_eq_decide.mpr ⟨fun e => by
        rw [e] at dlen
        exact ed_zero _ _ _ (Nat.le_refl _) dlen.symm, fun e => by
        rw [e, ed_self] at dlen
        exact List.eq_nil_of_length_eq_zero dlen⟩
      rw [es]
      refine ⟨rfl, false, by rw [decide_eq_true rfl]; rfl, iteF ?_⟩
      have o11 := o10.ex xE
      have nA := (o11.nth ha)
      have nB := (o11.nth hb)
      have pA := xE.sqL pA.lst
      have pB := xE.sqL pB.lst
      have hL := xE.lst hL
      have m11 := m10.ex xE
      have x11 := x10.trans xE
      generalize upd H10 E1 (.lst []) = H11 at o11 nA nB pA pB hL m11 x11 ⊢
      clear xE nE1 x10 o10 m10 gd dpA dpB hm hr hrr
      -- how many
      refine ⟨_, rfl, L, _, rfl, .inl (SqL.of hL), _, rfl, _, rfl, PL, _, ((ka : Nat) : Int), .ref (Af ka), rfl, rfl, nA.1, nA.2, Af ka, _, rfl, .inl pA, _, rfl, _, rfl, PL, _, ((kb : Nat) : Int), .ref (Af kb), rfl, rfl, nB.1, nB.2, Af kb, _, rfl, .inl pB, _, _, rfl, _, _, rfl, rfl, false, dF ?_, iteF ?_⟩
      · rw [tl2, lA, lB]
        split <;> omega
      refine ⟨_, rfl, L, _, rfl, .inl (SqL.of hL), _, rfl, _, rfl, PL, _, ((ka : Nat) : Int), .ref (Af ka), rfl, rfl, nA.1, nA.2, Af ka, _, rfl, .inl pA, _, rfl, _, rfl, PL, _, ((kb : Nat) : Int), .ref (Af kb), rfl, rfl, nB.1, nB.2, Af kb, _, rfl, .inl pB, _, _, rfl, rfl, _, rfl, _, _, rfl, rfl, false, dF ?_, iteF ?_⟩
      · rw [tl2, lA, lB]
        split <;> omega
      exact ⟨⟨_, _, _, _, _, rfl⟩, x11, m11⟩
    clear xA mA
    rintro σ H6 ⟨⟨c8, c9, c10, c11, c12, c13, rfl⟩, x6, m6⟩
    have m6 := m6.mono (dm := fun i j => i < 3 ∧ j < 3) (Nat.le_refl _) fun i j z => ⟨z.1, z.2, z.1⟩
    refine ⟨_, rfl, by decide, by decide, for_range (n := 3) (fun a σ H' => (∃ c8 c9 c10 c11 c12 c13 : Option V, σ = [some (.ref sc), some (.ref b), some (.ref p0), some (.ref st), some (.ref p1), some (.ref p2), some (.ref PL), some (.ref DM), c8, c9, c10, c11, c12, c13]) ∧ Ex cs HA H' ∧ Mn Rf DM (3 * 3) (fun i j => i < 3 ∧ j < 3) H')
      ⟨⟨_, _, _, _, _, _, rfl⟩, x6, m6⟩ ?_ ?_⟩
    rotate_left
    · rintro σ H7 _
      exact kQ _
    clear x6 m6
    rintro ka σ H6 ha ⟨⟨c8, c9, c10, c11, c12, c13, rfl⟩, x6, m6⟩
    have ez : (0 : Int) + ((ka : Nat) : Int) = ((ka : Nat) : Int) := by omega
    rw [ez]
    refine ⟨_, rfl, by decide, by decide, for_range (n := 3) (fun kb σ H' => (∃ c9 c10 c11 c12 c13 : Option V, σ = [some (.ref sc), some (.ref b), some (.ref p0), some (.ref st), some (.ref p1), some (.ref p2), some (.ref PL), some (.ref DM), some (.int ((ka : Nat) : Int)), c9, c10, c11, c12, c13]) ∧ Ex cs HA H' ∧ Mn Rf DM (3 * 3) (fun i j => i < 3 ∧ j < 3) H')
      ⟨⟨c9, c10, c11, c12, c13, rfl⟩, x6, m6⟩ ?_ ?_⟩
    rotate_left
    · rintro σ H7 ⟨⟨c9, c10, c11, c12, c13, rfl⟩, x7, m7⟩
      exact ⟨⟨_, _, _, _, _, _, rfl⟩, x7, m7⟩
    clear x6 m6
    rintro kb σ H7 hb ⟨⟨c9, c10, c11, c12, c13, rfl⟩, x7, m7⟩
    have ez : (0 : Int) + ((kb : Nat) : Int) = ((kb : Nat) : Int) := by omega
    rw [ez]
    have esy : ed (Rf kb) (Rf ka) = ed (Rf ka) (Rf kb) := ed_symm _ _ _ (Nat.le_refl _)
    refine ⟨_, rfl, _, rfl, _, rfl, by show 2 ≤ sizeLine; decide, fun T1 nT1 => ?_⟩
    have xT := Ex.laid (o := .tup [.int ((ka : Nat) : Int), .int ((kb : Nat) : Int)]) x7.tab nT1
    have m8 := m7.ex xT
    refine ⟨DM, _, rfl, m8.get ⟨ha, hb⟩ upd_same, ?_⟩
    have x8 := x7.trans xT
    generalize upd H7 T1 (.tup [.int ((ka : Nat) : Int), .int ((kb : Nat) : Int)]) = H8 at m8 x8 ⊢
    clear xT x7 m7 nT1
    refine ⟨_, rfl, _, rfl, _, rfl, by show 2 ≤ sizeLine; decide, fun T1 nT1 => ?_⟩
    have xT := Ex.laid (o := .tup [.int ((kb : Nat) : Int), .int ((ka : Nat) : Int)]) x8.tab nT1
    have m9 := m8.ex xT
    refine ⟨DM, _, rfl, m9.get ⟨hb, ha⟩ upd_same, ?_⟩
    have x9 := x8.trans xT
    generalize upd H8 T1 (.tup [.int ((kb : Nat) : Int), .int ((ka : Nat) : Int)]) = H9 at m9 x9 ⊢
    clear xT x8 m8 nT1
    refine ⟨rfl, false, by rw [esy, decide_eq_true rfl]; rfl, iteF ?_⟩
    refine ⟨_, rfl, by decide, by decide, fun Rr nR => lc_range (n := 3) (fun i H' => Ex cs H9 H' ∧ H' Rr = some (.lst [])) ⟨Ex.laid x9.tab nR, upd_same⟩ ?_ ?_⟩
    · rintro km Hm hm ⟨xm, hR⟩
      have ez : (0 : Int) + ((km : Nat) : Int) = ((km : Nat) : Int) := by omega
      rw [ez]
      refine ⟨rfl, ?_⟩
      have mm := m9.ex xm
      refine ⟨_, rfl, _, rfl, _, rfl, by show 2 ≤ sizeLine; decide, fun T1 nT1 => ?_⟩
      have x1 := Ex.laid (o := .tup [.int ((ka : Nat) : Int), .int ((kb : Nat) : Int)]) xm.tab nT1
      have mm := mm.ex x1
      refine ⟨DM, _, rfl, mm.get ⟨ha, hb⟩ upd_same, ?_⟩
      refine ⟨_, rfl, _, rfl, _, rfl, by show 2 ≤ sizeLine; decide, fun T2 nT2 => ?_⟩
      have x2 := Ex.laid (o := .tup [.int ((ka : Nat) : Int), .int ((km : Nat) : Int)]) x1.tab nT2
      have mm := mm.ex x2
      refine ⟨DM, _, rfl, mm.get ⟨ha, hm⟩ upd_same, ?_⟩
      refine ⟨_, rfl, _, rfl, _, rfl, by show 2 ≤ sizeLine; decide, fun T3 nT3 => ?_⟩
      have x3 := Ex.laid (o := .tup [.int ((km : Nat) : Int), .int ((kb : Nat) : Int)]) x2.tab nT3
      have mm := mm.ex x3
      refine ⟨DM, _, rfl, mm.get ⟨hm, hb⟩ upd_same, ?_⟩
      have tri := ed_tri _ (Rf ka) (Rf km) (Rf kb) (Nat.le_refl _)
      have xx := (x1.trans x2).trans x3
      exact ⟨_, _, rfl, rfl, _, _, rfl, rfl, false, dF (by omega), iteF ⟨xm.trans xx, xx.lst hR⟩⟩
    rintro H10 ⟨x10, hR⟩
    refine ⟨small0, fun e2 n2 => ?_⟩
    have xe := Ex.laid (o := .lst []) x10.tab n2
    refine ⟨.list [], .list [], .lst (SqL.of (xe.lst hR)) .nil, .lst (SqL.of upd_same) .nil, by decide, by decide, false, rfl, iteF ?_⟩
    exact ⟨⟨_, _, _, _, _, rfl⟩, (x9.trans x10).trans xe, m9.ex (x10.trans xe)⟩
end
end TGK

namespace TG
open PySem PySem.Spec PyProof.Rows L2 TGK
/-! ### the head -/
theorem const_of : True := trivial
theorem subL {K : PySem.W.Frag} {q : Addr × Addr} (h : q ∈ tfB.map (He.cT K)) : q ∈ tfL.map (He.cT K) := by
  unfold tfL
  rw [List.map_append]
  exact List.mem_append_left _ h
theorem memL {K : PySem.W.Frag} {r : He.Defn} (h : r ∈ lmL) : He.cT K r ∈ tfL.map (He.cT K) := by
  unfold tfL
  rw [List.map_append]
  exact List.mem_append_right _ (List.mem_map_of_mem h)
theorem fun_of {K : PySem.W.Frag} {x : Str} {st : Stmt} {f : Addr} {fd : FuncData} (F : FunD K x x (defArgs st) (defBody st) (defScope st) [] [] f fd) : Fun K x x st f fd := by
  obtain ⟨⟨oc, od, dV, kV, doc, pm, an, cdv, ct, osl, e, lk, hcd, hd, _⟩, kp⟩ := F
  rcases hd with ⟨_, hd⟩ | ⟨hd, _⟩
  · subst hd
    exact ⟨⟨oc, od, kV, doc, pm, an, cdv, ct, osl, e, lk, hcd⟩, kp⟩
  · exact absurd rfl hd
/-- a def of the top, by its name -/
structure At (K : PySem.W.Frag) (mg : Str → Option Value) (x : Str) (st : Stmt) (fd : FuncData) : Prop where
  mg_ : mg x = some (.ref (He.ga K x))
  fn : Fun K x x st (He.ga K x) fd
theorem At.kp {K : PySem.W.Frag} {mg : Str → Option Value} {x : Str} {st : Stmt} {fd : FuncData} (a : At K mg x st fd) : PySem.W.keepIn K (.ref (He.ga K x)) = true := a.fn.kp
theorem fun_ofm {K : PySem.W.Frag} {x q : Str} {st : Stmt} {f : Addr} {fd : FuncData} (F : FunD K x q (defArgs st) (defBody st) (defScope st) [] [] f fd) : Fun K x q st f fd := by
  obtain ⟨⟨oc, od, dV, kV, doc, pm, an, cdv, ct, osl, e, lk, hcd, hd, _⟩, kp⟩ := F
  rcases hd with ⟨_, hd⟩ | ⟨hd, _⟩
  · subst hd
    exact ⟨⟨oc, od, kV, doc, pm, an, cdv, ct, osl, e, lk, hcd⟩, kp⟩
  · exact absurd rfl hd
theorem atm_of {fa : List He.Fa} {fn : List He.DefD} {K : PySem.W.Frag} (c : He.SaysD fa fn K) {k i : Nat} {C m : Str} (hd : dm k i C m ∈ fn) : ∃ fd, Fun K m (C ++ "." ++ m) (mth k i) (He.ma K (He.ga K C) m) fd := by
  obtain ⟨fd, F⟩ := c.defs hd
  exact ⟨fd, fun_ofm F⟩
theorem at_of {fa : List He.Fa} {fn : List He.DefD} {K : PySem.W.Frag} {h : Heap} {mg : Str → Option Value} (X : K.In h) (G : h.Ns mainGlobals mg) (c : He.SaysD fa fn K) {i : Nat} {x : Str} (hd : dd i x ∈ fn) (hf : He.Fa.glo x ∈ fa) : ∃ fd, At K mg x (top i) fd := by
  obtain ⟨fd, F⟩ := c.defs hd
  exact ⟨fd, He.glo_ok X G (c.facts hf), fun_of F⟩
theorem code_of {K : PySem.W.Frag} {mg : Str → Option Value} {x : Str} {st : Stmt} {fd : FuncData} (a : At K mg x st fd) : fd.code = .ref (He.cT K (x, none)).1 := by
  obtain ⟨oc, od, kV, doc, pm, an, cdv, ct, osl, e, lk, hcd⟩ := a.fn.ex
  obtain ⟨c, hc⟩ := He.codeIn_ref hcd
  have e2 : fd.code = .ref c := by rw [e, ← hc]
  have e3 : He.codeOf K (x, none) = c := He.codeOf_eq (p := (x, none)) lk e2
  show fd.code = .ref (He.codeOf K (x, none))
  rw [e3, e2]
theorem tab_conv {base : Heap} {mg : Str → Option Value} {c P : Addr} (t : LamX.TabB base mg c P) : GxR.TabB base mg c P := ⟨t.code, t.bm, t.gP⟩

theorem txt_of {K : PySem.W.Frag} {h : Heap} {mg : Str → Option Value} (X : K.In h) (G : h.Ns mainGlobals mg) (c : He.SaysD faL fnL K) : Txt mg := by
  constructor
  all_goals exact He.free_ok X G (c.facts (by simp [faL]))
theorem consts_of {K : PySem.W.Frag} {h : Heap} {mg : Str → Option Value} (X : K.In h) (G : h.Ns mainGlobals mg) (c : He.SaysD faL fnL K) : Consts mg := by
  constructor
  all_goals exact He.int_ok X G (c.facts (by simp [faL]))
theorem triples_nil : TriplesOk (#[] : Array Value).toList := trivial
theorem facts {w : World} {K : PySem.W.Frag} {h : Heap} {mg : Str → Option Value} {f : Addr} (X : K.In h) (G : h.Ns mainGlobals mg) (hfa : mg ("law" : Str) = some (.ref f)) (c : He.SaysX faL fnL [] tfL exC w h K) :
    LamX.LawAtS PySem.Challenge.rw_tabgrow_k18_whole_no_shorter_route w K CX0 20 63 "_law_script" mg f h := by
  have cd := c.t.d
  have T := txt_of X G cd
  have N := consts_of X G cd
  obtain ⟨me, mf⟩ := He.ba c.more
  have hz : mg "zip" = none := He.free_ok X G (cd.facts (by simp [faL]))
  have hz_abs : mg "abs" = none := He.free_ok X G (cd.facts (by simp [faL]))
  obtain ⟨d17, a17⟩ := at_of X G cd (i := 17) (x := "is_whole") (by simp [fnL]) (by simp [faL])
  have b17 := a17.fn.binds (ps := ["value", "low", "high"]) fun _ _ _ _ _ _ us hl => match us, hl with | [_, _, _], _ => rfl
  obtain ⟨d18, a18⟩ := at_of X G cd (i := 18) (x := "is_sign") (by simp [fnL]) (by simp [faL])
  have b18 := a18.fn.binds (ps := ["sign"]) fun _ _ _ _ _ _ us hl => match us, hl with | [_], _ => rfl
  obtain ⟨d19, a19⟩ := at_of X G cd (i := 19) (x := "is_text_of_signs") (by simp [fnL]) (by simp [faL])
  have b19 := a19.fn.binds (ps := ["value", "most"]) fun _ _ _ _ _ _ us hl => match us, hl with | [_, _], _ => rfl
  obtain ⟨d20, a20⟩ := at_of X G cd (i := 20) (x := "is_row") (by simp [fnL]) (by simp [faL])
  have b20 := a20.fn.binds (ps := ["value"]) fun _ _ _ _ _ _ us hl => match us, hl with | [_], _ => rfl
  obtain ⟨d21, a21⟩ := at_of X G cd (i := 21) (x := "first_misfit") (by simp [fnL]) (by simp [faL])
  have b21 := a21.fn.binds (ps := ["rows"]) fun _ _ _ _ _ _ us hl => match us, hl with | [_], _ => rfl
  obtain ⟨d22, a22⟩ := at_of X G cd (i := 22) (x := "check_page") (by simp [fnL]) (by simp [faL])
  have b22 := a22.fn.binds (ps := ["page"]) fun _ _ _ _ _ _ us hl => match us, hl with | [_], _ => rfl
  obtain ⟨d23, a23⟩ := at_of X G cd (i := 23) (x := "check_row") (by simp [fnL]) (by simp [faL])
  have b23 := a23.fn.binds (ps := ["row"]) fun _ _ _ _ _ _ us hl => match us, hl with | [_], _ => rfl
  obtain ⟨d24, a24⟩ := at_of X G cd (i := 24) (x := "check_style") (by simp [fnL]) (by simp [faL])
  have b24 := a24.fn.binds (ps := ["style"]) fun _ _ _ _ _ _ us hl => match us, hl with | [_], _ => rfl
  obtain ⟨d26, a26⟩ := at_of X G cd (i := 26) (x := "stretches") (by simp [fnL]) (by simp [faL])
  have b26 := a26.fn.binds (ps := ["page", "style"]) fun _ _ _ _ _ _ us hl => match us, hl with | [_, _], _ => rfl
  obtain ⟨d27, a27⟩ := at_of X G cd (i := 27) (x := "closed_runs") (by simp [fnL]) (by simp [faL])
  have b27 := a27.fn.binds (ps := ["page", "column"]) fun _ _ _ _ _ _ us hl => match us, hl with | [_, _], _ => rfl
  obtain ⟨d28, a28⟩ := at_of X G cd (i := 28) (x := "is_closed") (by simp [fnL]) (by simp [faL])
  have b28 := a28.fn.binds (ps := ["row", "column"]) fun _ _ _ _ _ _ us hl => match us, hl with | [_, _], _ => rfl
  obtain ⟨d29, a29⟩ := at_of X G cd (i := 29) (x := "described") (by simp [fnL]) (by simp [faL])
  have b29 := a29.fn.binds (ps := ["page", "style", "column", "begin", "end"]) fun _ _ _ _ _ _ us hl => match us, hl with | [_, _, _, _, _], _ => rfl
  obtain ⟨d30, a30⟩ := at_of X G cd (i := 30) (x := "stands_right") (by simp [fnL]) (by simp [faL])
  have b30 := a30.fn.binds (ps := ["cells"]) fun _ _ _ _ _ _ us hl => match us, hl with | [_], _ => rfl
  obtain ⟨d31, a31⟩ := at_of X G cd (i := 31) (x := "is_figures") (by simp [fnL]) (by simp [faL])
  have b31 := a31.fn.binds (ps := ["cell"]) fun _ _ _ _ _ _ us hl => match us, hl with | [_], _ => rfl
  obtain ⟨d33, a33⟩ := at_of X G cd (i := 33) (x := "laid") (by simp [fnL]) (by simp [faL])
  have b33 := a33.fn.binds (ps := ["page", "style"]) fun _ _ _ _ _ _ us hl => match us, hl with | [_, _], _ => rfl
  obtain ⟨d34, a34⟩ := at_of X G cd (i := 34) (x := "closed_cells") (by simp [fnL]) (by simp [faL])
  have b34 := a34.fn.binds (ps := ["page", "style"]) fun _ _ _ _ _ _ us hl => match us, hl with | [_, _], _ => rfl
  obtain ⟨d35, a35⟩ := at_of X G cd (i := 35) (x := "left_ends") (by simp [fnL]) (by simp [faL])
  have b35 := a35.fn.binds (ps := ["closed"]) fun _ _ _ _ _ _ us hl => match us, hl with | [_], _ => rfl
  obtain ⟨d36, a36⟩ := at_of X G cd (i := 36) (x := "begins_of") (by simp [fnL]) (by simp [faL])
  have b36 := a36.fn.binds (ps := ["row", "closed", "gap"]) fun _ _ _ _ _ _ us hl => match us, hl with | [_, _, _], _ => rfl
  obtain ⟨d39, a39⟩ := at_of X G cd (i := 39) (x := "check_number") (by simp [fnL]) (by simp [faL])
  have b39 := a39.fn.binds (ps := ["number", "last"]) fun _ _ _ _ _ _ us hl => match us, hl with | [_, _], _ => rfl
  obtain ⟨d40, a40⟩ := at_of X G cd (i := 40) (x := "check_fits") (by simp [fnL]) (by simp [faL])
  have b40 := a40.fn.binds (ps := ["many", "rows"]) fun _ _ _ _ _ _ us hl => match us, hl with | [_, _], _ => rfl
  obtain ⟨d41, a41⟩ := at_of X G cd (i := 41) (x := "moved") (by simp [fnL]) (by simp [faL])
  have b41 := a41.fn.binds (ps := ["before", "after", "others"]) fun _ _ _ _ _ _ us hl => match us, hl with | [_, _, _], _ => rfl
  obtain ⟨d43, a43⟩ := at_of X G cd (i := 43) (x := "route") (by simp [fnL]) (by simp [faL])
  have b43 := a43.fn.binds (ps := ["page", "other"]) fun _ _ _ _ _ _ us hl => match us, hl with | [_, _], _ => rfl
  obtain ⟨d44, a44⟩ := at_of X G cd (i := 44) (x := "ways") (by simp [fnL]) (by simp [faL])
  have b44 := a44.fn.binds (ps := ["page", "other", "here", "there"]) fun _ _ _ _ _ _ us hl => match us, hl with | [_, _, _, _], _ => rfl
  obtain ⟨d45, a45⟩ := at_of X G cd (i := 45) (x := "stepped") (by simp [fnL]) (by simp [faL])
  have b45 := a45.fn.binds (ps := ["page", "style", "steps"]) fun _ _ _ _ _ _ us hl => match us, hl with | [_, _, _], _ => rfl
  obtain ⟨d46, a46⟩ := at_of X G cd (i := 46) (x := "gone") (by simp [fnL]) (by simp [faL])
  have b46 := a46.fn.binds (ps := ["sheet", "step"]) fun _ _ _ _ _ _ us hl => match us, hl with | [_, _], _ => rfl
  obtain ⟨d47, a47⟩ := at_of X G cd (i := 47) (x := "check_steps") (by simp [fnL]) (by simp [faL])
  have b47 := a47.fn.binds (ps := ["steps"]) fun _ _ _ _ _ _ us hl => match us, hl with | [_], _ => rfl
  obtain ⟨d48, a48⟩ := at_of X G cd (i := 48) (x := "is_step") (by simp [fnL]) (by simp [faL])
  have b48 := a48.fn.binds (ps := ["value"]) fun _ _ _ _ _ _ us hl => match us, hl with | [_], _ => rfl
  obtain ⟨d50, a50⟩ := at_of X G cd (i := 50) (x := "_law_begun") (by simp [fnL]) (by simp [faL])
  have b50 := a50.fn.binds (ps := ["_law_script"]) fun _ _ _ _ _ _ us hl => match us, hl with | [_], _ => rfl
  obtain ⟨d51, a51⟩ := at_of X G cd (i := 51) (x := "_law_take") (by simp [fnL]) (by simp [faL])
  have b51 := a51.fn.binds (ps := ["_law_box", "_law_many"]) fun _ _ _ _ _ _ us hl => match us, hl with | [_, _], _ => rfl
  obtain ⟨d52, a52⟩ := at_of X G cd (i := 52) (x := "_law_alike") (by simp [fnL]) (by simp [faL])
  have b52 := a52.fn.binds (ps := ["_law_found", "_law_due"]) fun _ _ _ _ _ _ us hl => match us, hl with | [_, _], _ => rfl
  obtain ⟨d53, a53⟩ := at_of X G cd (i := 53) (x := "_law_sign") (by simp [fnL]) (by simp [faL])
  have b53 := a53.fn.binds (ps := ["_law_box"]) fun _ _ _ _ _ _ us hl => match us, hl with | [_], _ => rfl
  obtain ⟨d54, a54⟩ := at_of X G cd (i := 54) (x := "_law_cell") (by simp [fnL]) (by simp [faL])
  have b54 := a54.fn.binds (ps := ["_law_box", "_law_sort"]) fun _ _ _ _ _ _ us hl => match us, hl with | [_, _], _ => rfl
  obtain ⟨d55, a55⟩ := at_of X G cd (i := 55) (x := "_law_row") (by simp [fnL]) (by simp [faL])
  have b55 := a55.fn.binds (ps := ["_law_box", "_law_sorts", "_law_many"]) fun _ _ _ _ _ _ us hl => match us, hl with | [_, _, _], _ => rfl
  obtain ⟨d56, a56⟩ := at_of X G cd (i := 56) (x := "_law_page") (by simp [fnL]) (by simp [faL])
  have b56 := a56.fn.binds (ps := ["_law_box", "_law_most"]) fun _ _ _ _ _ _ us hl => match us, hl with | [_, _], _ => rfl
  obtain ⟨d57, a57⟩ := at_of X G cd (i := 57) (x := "_law_style") (by simp [fnL]) (by simp [faL])
  have b57 := a57.fn.binds (ps := ["_law_box"]) fun _ _ _ _ _ _ us hl => match us, hl with | [_], _ => rfl
  obtain ⟨d58, a58⟩ := at_of X G cd (i := 58) (x := "_law_near") (by simp [fnL]) (by simp [faL])
  have b58 := a58.fn.binds (ps := ["_law_box", "_law_page_here"]) fun _ _ _ _ _ _ us hl => match us, hl with | [_, _], _ => rfl
  obtain ⟨d59, a59⟩ := at_of X G cd (i := 59) (x := "law") (by simp [fnL]) (by simp [faL])
  have b59 := a59.fn.binds (ps := ["_law_script"]) fun _ _ _ _ _ _ us hl => match us, hl with | [_], _ => rfl
  have hf : ∀ {x : He.Fa}, x ∈ faL → He.Fa.ok K x = true := fun h => cd.facts h
  have Xc : TGK.ShC K (He.ga K "Sheet") := ⟨He.cls_ok (hf (x := .cls "Sheet") (by simp [faL])), He.noat_ok (hf (x := .noat "Sheet" "rows") (by simp [faL])), He.noat_ok (hf (x := .noat "Sheet" "style") (by simp [faL])), He.noat_ok (hf (x := .noat "Sheet" "deeds") (by simp [faL]))⟩
  have eR := He.exc_ok (hf (x := .exc "BadRow") (by simp [faL]))
  have eC := He.exc_ok (hf (x := .exc "BadCell") (by simp [faL]))
  have Es : TGK.SErr K mg (He.ga K "BadRow") (He.ga K "BadCell") (He.ga K "GrowError") := ⟨⟨He.glo_ok X G (hf (x := .glo "BadRow") (by simp [faL])), eR.1, eR.2.1, eR.2.2.1, eR.2.2.2, He.exm_ok (hf (x := .exm "BadRow" "GrowError" true) (by simp [faL]))⟩, ⟨He.glo_ok X G (hf (x := .glo "BadCell") (by simp [faL])), eC.1, eC.2.1, eC.2.2.1, eC.2.2.2, He.exm_ok (hf (x := .exm "BadCell" "GrowError" true) (by simp [faL]))⟩, He.glo_ok X G (hf (x := .glo "GrowError") (by simp [faL]))⟩
  have gS : mg "Sheet" = some (.ref (He.ga K "Sheet")) := He.glo_ok X G (hf (x := .glo "Sheet") (by simp [faL]))
  obtain ⟨d_Sheet_init, a_Sheet_init⟩ := atm_of cd (k := 38) (i := 0) (C := "Sheet") (m := "__init__") (by simp [fnL])
  have b_Sheet_init := a_Sheet_init.binds (ps := ["self", "page", "style"]) fun _ _ _ _ _ _ us hl => match us, hl with | [_, _, _], _ => rfl
  have mk_Sheet : Mk K (He.ga K "Sheet") (He.ma K (He.ga K "Sheet") "__init__") := He.mkr_ok (hf (x := .mkr "Sheet") (by simp [faL]))
  obtain ⟨d_Sheet_put, a_Sheet_put⟩ := atm_of cd (k := 38) (i := 1) (C := "Sheet") (m := "put") (by simp [fnL])
  have b_Sheet_put := a_Sheet_put.binds (ps := ["self", "number", "row"]) fun _ _ _ _ _ _ us hl => match us, hl with | [_, _, _], _ => rfl
  have m_Sheet_put : Meth K (He.ga K "Sheet") "put" (He.ma K (He.ga K "Sheet") "put") := He.meth_ok (hf (x := .meth "Sheet" "put") (by simp [faL]))
  obtain ⟨d_Sheet_take, a_Sheet_take⟩ := atm_of cd (k := 38) (i := 2) (C := "Sheet") (m := "take") (by simp [fnL])
  have b_Sheet_take := a_Sheet_take.binds (ps := ["self", "number"]) fun _ _ _ _ _ _ us hl => match us, hl with | [_, _], _ => rfl
  have m_Sheet_take : Meth K (He.ga K "Sheet") "take" (He.ma K (He.ga K "Sheet") "take") := He.meth_ok (hf (x := .meth "Sheet" "take") (by simp [faL]))
  obtain ⟨d_Sheet_change, a_Sheet_change⟩ := atm_of cd (k := 38) (i := 3) (C := "Sheet") (m := "change") (by simp [fnL])
  have b_Sheet_change := a_Sheet_change.binds (ps := ["self", "number", "row"]) fun _ _ _ _ _ _ us hl => match us, hl with | [_, _, _], _ => rfl
  have m_Sheet_change : Meth K (He.ga K "Sheet") "change" (He.ma K (He.ga K "Sheet") "change") := He.meth_ok (hf (x := .meth "Sheet" "change") (by simp [faL]))
  obtain ⟨d_Sheet_page, a_Sheet_page⟩ := atm_of cd (k := 38) (i := 9) (C := "Sheet") (m := "page") (by simp [fnL])
  have b_Sheet_page := a_Sheet_page.binds (ps := ["self"]) fun _ _ _ _ _ _ us hl => match us, hl with | [_], _ => rfl
  have m_Sheet_page : Meth K (He.ga K "Sheet") "page" (He.ma K (He.ga K "Sheet") "page") := He.meth_ok (hf (x := .meth "Sheet" "page") (by simp [faL]))
  obtain ⟨d_Sheet_begins, a_Sheet_begins⟩ := atm_of cd (k := 38) (i := 10) (C := "Sheet") (m := "begins") (by simp [fnL])
  have b_Sheet_begins := a_Sheet_begins.binds (ps := ["self"]) fun _ _ _ _ _ _ us hl => match us, hl with | [_], _ => rfl
  have m_Sheet_begins : Meth K (He.ga K "Sheet") "begins" (He.ma K (He.ga K "Sheet") "begins") := He.meth_ok (hf (x := .meth "Sheet" "begins") (by simp [faL]))
  obtain ⟨d_Sheet_lay, a_Sheet_lay⟩ := atm_of cd (k := 38) (i := 11) (C := "Sheet") (m := "lay") (by simp [fnL])
  have b_Sheet_lay := a_Sheet_lay.binds (ps := ["self", "number", "many", "rows"]) fun _ _ _ _ _ _ us hl => match us, hl with | [_, _, _, _], _ => rfl
  have m_Sheet_lay : Meth K (He.ga K "Sheet") "lay" (He.ma K (He.ga K "Sheet") "lay") := He.meth_ok (hf (x := .meth "Sheet" "lay") (by simp [faL]))
  have e := hfa.symm.trans a59.mg_
  cases e
  refine ⟨d59, tfL.map (He.cT K), spLaw K (tfB.map (He.cT K)) , fun p hp => ?_, fun p hp => ?_, fun p hp => ?_, fun s u => ?_, fun H a ns hl _ hT hS => ⟨a, ns, rfl, fun p hp => ⟨_, hT p (subL hp), triples_nil⟩, hS, hl, fun _ => rfl⟩, fun base KB _ TB => ?_⟩
  · obtain ⟨p', hp', rfl⟩ := List.mem_map.mp hp
    exact c.empty p' hp'
  · obtain ⟨p', hp', rfl⟩ := List.mem_map.mp hp
    exact c.out p' hp'
  · obtain ⟨p', hp', rfl⟩ := List.mem_map.mp hp
    exact PySem.W.codeHd_of_K X (c.hd p' hp')
  · obtain ⟨oc, od, kV, doc, pm, an, cdv, ct, osl, e, _, _⟩ := a59.fn.ex
    rw [e]
    exact .of_eq rfl
  have m19 : He.cT K ("is_text_of_signs", none) ∈ tfB.map (He.cT K) := List.mem_map.mpr ⟨_, by simp [tfB], rfl⟩
  have t19 := tab_conv (TB _ (subL m19))
  have m20 : He.cT K ("is_row", none) ∈ tfB.map (He.cT K) := List.mem_map.mpr ⟨_, by simp [tfB], rfl⟩
  have t20 := tab_conv (TB _ (subL m20))
  have m26 : He.cT K ("stretches", none) ∈ tfB.map (He.cT K) := List.mem_map.mpr ⟨_, by simp [tfB], rfl⟩
  have t26 := tab_conv (TB _ (subL m26))
  have m29 : He.cT K ("described", none) ∈ tfB.map (He.cT K) := List.mem_map.mpr ⟨_, by simp [tfB], rfl⟩
  have t29 := tab_conv (TB _ (subL m29))
  have m30 : He.cT K ("stands_right", none) ∈ tfB.map (He.cT K) := List.mem_map.mpr ⟨_, by simp [tfB], rfl⟩
  have t30 := tab_conv (TB _ (subL m30))
  have g50 := ok_begun (P := PySem.Challenge.rw_tabgrow_k18_whole_no_shorter_route.prog) (w := w) (base := base) (mg := mg) T a50.fn 
  have g51 := ok_take (P := PySem.Challenge.rw_tabgrow_k18_whole_no_shorter_route.prog) (w := w) (base := base) (mg := mg)  a51.fn 
  have g53 := ok_sign (P := PySem.Challenge.rw_tabgrow_k18_whole_no_shorter_route.prog) (w := w) (base := base) (mg := mg)  a53.fn g51 a51.kp b51 a51.mg_
  have g54 := ok_cell (P := PySem.Challenge.rw_tabgrow_k18_whole_no_shorter_route.prog) (w := w) (base := base) (mg := mg) T a54.fn g51 a51.kp b51 a51.mg_ g53 a53.kp b53 a53.mg_
  have g55 := ok_lrow (P := PySem.Challenge.rw_tabgrow_k18_whole_no_shorter_route.prog) (w := w) (base := base) (mg := mg) T a55.fn g54 a54.kp b54 a54.mg_
  have g56 := ok_lpageM (P := PySem.Challenge.rw_tabgrow_k18_whole_no_shorter_route.prog) (w := w) (base := base) (mg := mg) T a56.fn g51 a51.kp b51 a51.mg_ g55 a55.kp b55 a55.mg_
  have g57 := ok_lstyle (P := PySem.Challenge.rw_tabgrow_k18_whole_no_shorter_route.prog) (w := w) (base := base) (mg := mg)  a57.fn g51 a51.kp b51 a51.mg_
  have g58 := TGK.ok_near (P := PySem.Challenge.rw_tabgrow_k18_whole_no_shorter_route.prog) (w := w) (base := base) (mg := mg) T a58.fn g51 a51.kp b51 a51.mg_ g55 a55.kp b55 a55.mg_
  have g18 := ok_sg (P := PySem.Challenge.rw_tabgrow_k18_whole_no_shorter_route.prog) (w := w) (base := base) (mg := mg) T N a18.fn 
  have g19 := ok_text (P := PySem.Challenge.rw_tabgrow_k18_whole_no_shorter_route.prog) (w := w) (base := base) (mg := mg) T a19.fn (code_of a19) t19 m19 g18 a18.kp b18 a18.mg_
  have g20 := ok_isrow (P := PySem.Challenge.rw_tabgrow_k18_whole_no_shorter_route.prog) (w := w) (base := base) (mg := mg) T N a20.fn (code_of a20) t20 m20 g19 a19.kp b19 a19.mg_
  have g21 := ok_misfit (P := PySem.Challenge.rw_tabgrow_k18_whole_no_shorter_route.prog) (w := w) (base := base) (mg := mg) T N a21.fn g20 a20.kp b20 a20.mg_
  have g22 := ok_check (P := PySem.Challenge.rw_tabgrow_k18_whole_no_shorter_route.prog) (w := w) (base := base) (mg := mg) T a22.fn g21 a21.kp b21 a21.mg_
  have g44 := TGK.ok_ways (P := PySem.Challenge.rw_tabgrow_k18_whole_no_shorter_route.prog) (w := w) (base := base) (mg := mg) T a44.fn 
  have g43 := TGK.ok_route (P := PySem.Challenge.rw_tabgrow_k18_whole_no_shorter_route.prog) (w := w) (base := base) (mg := mg) (cs := tfB.map (He.cT K)) T T.min a43.fn g22 a22.kp b22 a22.mg_ g44 a44.kp b44 a44.mg_
  have g17 := ok_whole (P := PySem.Challenge.rw_tabgrow_k18_whole_no_shorter_route.prog) (w := w) (base := base) (mg := mg) T a17.fn 
  have g24 := ok_cstyle (P := PySem.Challenge.rw_tabgrow_k18_whole_no_shorter_route.prog) (w := w) (base := base) (mg := mg) T N a24.fn g17 a17.kp b17 a17.mg_
  have g28 := ok_closed (P := PySem.Challenge.rw_tabgrow_k18_whole_no_shorter_route.prog) (w := w) (base := base) (mg := mg) T a28.fn 
  have g27 := ok_runs (P := PySem.Challenge.rw_tabgrow_k18_whole_no_shorter_route.prog) (w := w) (base := base) (mg := mg) (cs := tfB.map (He.cT K)) T a27.fn g28 a28.kp b28 a28.mg_
  have g31 := ok_isfig (P := PySem.Challenge.rw_tabgrow_k18_whole_no_shorter_route.prog) (w := w) (base := base) (mg := mg)  a31.fn 
  have g30 := ok_right (P := PySem.Challenge.rw_tabgrow_k18_whole_no_shorter_route.prog) (w := w) (base := base) (mg := mg) T a30.fn (code_of a30) t30 m30 g31 a31.kp b31 a31.mg_
  have g29 := ok_desc (P := PySem.Challenge.rw_tabgrow_k18_whole_no_shorter_route.prog) (w := w) (base := base) (mg := mg) T a29.fn (code_of a29) t29 m29 g30 a30.kp b30 a30.mg_
  have g26 := ok_str (P := PySem.Challenge.rw_tabgrow_k18_whole_no_shorter_route.prog) (w := w) (base := base) (mg := mg) T a26.fn (code_of a26) t26 m26 g22 a22.kp b22 a22.mg_ g24 a24.kp b24 a24.mg_ g27 a27.kp b27 a27.mg_ g29 a29.kp b29 a29.mg_
  have g34 := ok_cc (P := PySem.Challenge.rw_tabgrow_k18_whole_no_shorter_route.prog) (w := w) (base := base) (mg := mg) T a34.fn g26 a26.kp b26 a26.mg_
  have g35 := ok_le (P := PySem.Challenge.rw_tabgrow_k18_whole_no_shorter_route.prog) (w := w) (base := base) (mg := mg)  a35.fn 
  have g36 := ok_bo (P := PySem.Challenge.rw_tabgrow_k18_whole_no_shorter_route.prog) (w := w) (base := base) (mg := mg) T a36.fn g35 a35.kp b35 a35.mg_
  have g33 := ok_laid (P := PySem.Challenge.rw_tabgrow_k18_whole_no_shorter_route.prog) (w := w) (base := base) (mg := mg) hz a33.fn g34 a34.kp b34 a34.mg_ g36 a36.kp b36 a36.mg_
  have g23 := TGK.ok_crow (P := PySem.Challenge.rw_tabgrow_k18_whole_no_shorter_route.prog) (w := w) (base := base) (mg := mg)  a23.fn g20 a20.kp b20 a20.mg_
  have g17_B := TGK.ok_wholeB (P := PySem.Challenge.rw_tabgrow_k18_whole_no_shorter_route.prog) (w := w) (base := base) (mg := mg) T a17.fn 
  have g39_0 := TGK.ok_num0 (P := PySem.Challenge.rw_tabgrow_k18_whole_no_shorter_route.prog) (w := w) (base := base) (mg := mg)  a39.fn g17_B a17.kp b17 a17.mg_
  have g18_2 := TGK.ok_sg2 (P := PySem.Challenge.rw_tabgrow_k18_whole_no_shorter_route.prog) (w := w) (base := base) (mg := mg) T N a18.fn 
  have g19_2 := TGK.ok_text2 (P := PySem.Challenge.rw_tabgrow_k18_whole_no_shorter_route.prog) (w := w) (base := base) (mg := mg) T a19.fn (code_of a19) t19 m19 g18_2 a18.kp b18 a18.mg_
  have g20_B := TGK.ok_rowB (P := PySem.Challenge.rw_tabgrow_k18_whole_no_shorter_route.prog) (w := w) (base := base) (mg := mg) T N a20.fn (code_of a20) t20 m20 g19_2 a19.kp b19 a19.mg_
  have g40 := TGK.ok_fits (P := PySem.Challenge.rw_tabgrow_k18_whole_no_shorter_route.prog) (w := w) (base := base) (mg := mg) N Es a40.fn g20_B a20.kp b20 a20.mg_
  have g41 := TGK.ok_mov (P := PySem.Challenge.rw_tabgrow_k18_whole_no_shorter_route.prog) (w := w) (base := base) (mg := mg) T hz a41.fn 
  have g48 := TGK.ok_step (P := PySem.Challenge.rw_tabgrow_k18_whole_no_shorter_route.prog) (w := w) (base := base) (mg := mg) (cs := tfB.map (He.cT K)) T a48.fn 
  have g47 := TGK.ok_csteps (P := PySem.Challenge.rw_tabgrow_k18_whole_no_shorter_route.prog) (w := w) (base := base) (mg := mg) (cs := tfB.map (He.cT K)) T a47.fn g48 a48.kp b48 a48.mg_
  have s_page := TGK.ok_shpage (P := PySem.Challenge.rw_tabgrow_k18_whole_no_shorter_route.prog) (w := w) (base := base) (mg := mg) T Xc a_Sheet_page
  have s_begins := TGK.ok_shbegins (P := PySem.Challenge.rw_tabgrow_k18_whole_no_shorter_route.prog) (w := w) (base := base) (mg := mg) (cs := tfB.map (He.cT K)) Xc a_Sheet_begins g33 a33.kp b33 a33.mg_
  have s_init := TGK.ok_shinit (P := PySem.Challenge.rw_tabgrow_k18_whole_no_shorter_route.prog) (w := w) (base := base) (mg := mg) (cs := tfB.map (He.cT K)) T Xc a_Sheet_init g22 a22.kp b22 a22.mg_ g24 a24.kp b24 a24.mg_
  have s_lay := TGK.ok_lay (P := PySem.Challenge.rw_tabgrow_k18_whole_no_shorter_route.prog) (w := w) (base := base) (mg := mg) (cs := tfB.map (He.cT K)) T Xc a_Sheet_lay g40 a40.kp b40 a40.mg_ m_Sheet_begins s_begins b_Sheet_begins g41 a41.kp b41 a41.mg_
  have s_put := TGK.ok_put (P := PySem.Challenge.rw_tabgrow_k18_whole_no_shorter_route.prog) (w := w) (base := base) (mg := mg) (cs := tfB.map (He.cT K)) T Xc a_Sheet_put g39_0 a39.kp b39 a39.mg_ g23 a23.kp b23 a23.mg_ m_Sheet_lay s_lay b_Sheet_lay
  have s_change := TGK.ok_change (P := PySem.Challenge.rw_tabgrow_k18_whole_no_shorter_route.prog) (w := w) (base := base) (mg := mg) (cs := tfB.map (He.cT K)) T Xc a_Sheet_change g39_0 a39.kp b39 a39.mg_ g23 a23.kp b23 a23.mg_ m_Sheet_lay s_lay b_Sheet_lay
  have s_take := TGK.ok_takeD (P := PySem.Challenge.rw_tabgrow_k18_whole_no_shorter_route.prog) (w := w) (base := base) (mg := mg) (cs := tfB.map (He.cT K)) T Xc a_Sheet_take g39_0 a39.kp b39 a39.mg_ m_Sheet_lay s_lay b_Sheet_lay
  have g46 := TGK.ok_gone (P := PySem.Challenge.rw_tabgrow_k18_whole_no_shorter_route.prog) (w := w) (base := base) (mg := mg) (cs := tfB.map (He.cT K)) Xc a46.fn m_Sheet_put s_put b_Sheet_put m_Sheet_change s_change b_Sheet_change m_Sheet_take s_take b_Sheet_take
  have sR := TGK.ok_stepped (P := PySem.Challenge.rw_tabgrow_k18_whole_no_shorter_route.prog) (w := w) (base := base) (mg := mg) (cs := tfB.map (He.cT K)) T Xc a45.fn mk_Sheet s_init b_Sheet_init gS g47 a47.kp b47 a47.mg_ g46 a46.kp b46 a46.mg_ m_Sheet_page s_page b_Sheet_page
  exact TGK.ok_law T hz_abs a59.fn g50 a50.kp b50 a50.mg_ g51 a51.kp b51 a51.mg_ g56 a56.kp b56 a56.mg_ g57 a57.kp b57 a57.mg_ g58 a58.kp b58 a58.mg_ g43 a43.kp b43 a43.mg_ (fn0_of sR) a45.kp b45 a45.mg_
end TG


open PySem PySem.W PySem.Calls PyProof.Rows
theorem PySem.Challenge.cw_tabgrow_k18_whole_no_shorter_route_holds : PySem.Challenge.rw_tabgrow_k18_whole_no_shorter_route.Holds := by
  w_on; o_law
  refine HandSHeadRun.head_any (r := OpenLaw.row PySem.Challenge.rw_tabgrow_k18_whole_no_shorter_route) (q := view (OpenLaw.row PySem.Challenge.rw_tabgrow_k18_whole_no_shorter_route).prog [59]) (H := TG.hdHk) (ob := TG.hdOb) (M := 9000) (loose := TG.looseL) (d := HandSHeadRun.topDef (OpenLaw.row PySem.Challenge.rw_tabgrow_k18_whole_no_shorter_route).prog 59) (kwd := []) TG.hdOb_eq
    (by kernel_rfl) (fun s => by kernel_rfl) TG.hdRun (by kernel_rfl) (by kernel_rfl) (by kernel_rfl) (by rfl) (by first | assumption | decide +kernel) (by decide +kernel) ⟨rfl, rfl, rfl, rfl, rfl, by decide +kernel⟩ ?hw ?hc
  case hw => w_witness2
  case hc =>
    refine LamX.walk_ofTsE (l := PySem.Challenge.rw_tabgrow_k18_whole_no_shorter_route) (n := 63) (k := 20) (x := "_law_script") (CX := fun _ => L2.CX0) rfl (by decide) (by kernel_rfl) ⟨rfl, by decide, by decide⟩ ?F (fun _ _ _ _ _ z => z)
    intro w mg fa h Y G hmg0
    obtain ⟨K, KX, c⟩ := Y
    have hmg : mg ("law" : PySem.Str) = some (.ref fa) := by
      have e : (HandSHeadRun.topDef (OpenLaw.row PySem.Challenge.rw_tabgrow_k18_whole_no_shorter_route).prog 59).name = ("law" : PySem.Str) := by kernel_rfl
      rw [← e]
      exact hmg0
    exact ⟨K, KX, TG.facts KX G hmg c⟩

